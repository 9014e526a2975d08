"""Rooms [5], two rooms [14], rows behind [15], ahead of [16] and beside [17] a room."""

import itertools
import random
import unittest

from pairsfree.errors import InvalidRoom, InvalidRow, InvalidRows, InvalidSize
from pairsfree.ratios import Ratio
from pairsfree.rooms import ahead, behind, beside, is_held, is_room, joined, shared
from pairsfree.steps import rank, steps
from tests.helper import (Case, fraction_rows, idle, kinds, numbers_are_ratios, plain_steps, random_room, random_rows,
                          rationed, tupled, wrong_rooms, wrong_row, wrong_rows, wrong_sizes)

SIZES = (0, 1, 2, 3, 4, 6)


def samples(seed, times=6):
    """Sizes with two rooms and some rows; the same at each call."""
    chance = random.Random(seed)
    found = []
    for size in SIZES:
        rooms = [[], steps(size, idle(size))] + [random_room(chance, size) for _ in range(times)]
        for room in rooms:
            found.append((size, room, chance.choice(rooms), random_rows(chance, size, chance.randint(0, 4))))
    return found


def is_made(rows, row):
    """Whether the row is made of the rows, reckoned another way."""
    return len(plain_steps(rows + [row])) == len(plain_steps(rows))


class IsRoomTest(Case):

    def test_rooms(self):
        for size, room, other, _ in samples(1):
            for value in (room, tupled(room), [tuple(row) for row in room], tuple(room)):
                self.assertIs(is_room(size, value), True)
                self.assertIs(is_room(size + 1, value), room == [])

    def test_integers_by_their_worth(self):
        rooms = [[[1, 0, 2], [0, 1, -1]], ((1, 0, Ratio(2)), [0, Ratio(1), -1]), [[0, 1, Ratio(1, 2)]], [[0, 0, 1]]]
        for value in rooms:
            self.assertIs(is_room(3, value), True)
            self.assertIs(is_room(3, rationed(value)), True)

    def test_nothing_and_all(self):
        for size in range(17):
            self.assertEqual([is_room(size, []), is_room(size, ()), is_room(size, idle(size))], [True] * 3)
            self.assertIs(is_room(size, idle(size + 1)), False)
        self.assertEqual([is_room(0, [[]]), is_room(0, [()]), is_room(0, [[], []])], [False] * 3)

    def test_none(self):
        for size in (2, 3, 16):
            for value in wrong_rooms(size):
                self.assertIs(is_room(size, value), False)

    def test_only_steps_are(self):
        numbers = (0, 1, 2, -1)
        for rows in itertools.product(itertools.product(numbers, repeat=3), repeat=2):
            wanted = fraction_rows(rows) == plain_steps(rows)
            self.assertIs(is_room(3, [list(row) for row in rows]), wanted)

    def test_values_of_every_kind(self):
        for value in kinds():
            of_one = type(value) in (list, tuple) and (
                len(value) == 0 or (len(value) == 1 and type(value[0]) in (list, tuple) and len(value[0]) == 1
                                    and type(value[0][0]) is int and value[0][0] == 1))
            self.assertIs(is_room(1, value), of_one)
            self.assertIs(is_room(2, value), type(value) in (list, tuple) and len(value) == 0)

    def test_wrong_size(self):
        for size in wrong_sizes(16):
            self.fails(InvalidSize, {"value": size}, is_room, size, [])
            self.fails(InvalidSize, {"value": size}, is_room, size, None)

    def test_conduct(self):
        self.answers_alike(is_room, size=3, value=[[1, 0, 2], (0, 1, Ratio(3))])


class TwoRoomsTest(Case):

    def test_joined(self):
        for size, room, other, _ in samples(2):
            found = joined(size, room, other)
            self.assertEqual(fraction_rows(found), plain_steps(room + other))
            self.assertTrue(numbers_are_ratios(found))
            self.assertEqual(joined(size, other, room), found)

    def test_shared(self):
        for size, room, other, _ in samples(3):
            found = shared(size, room, other)
            self.assertTrue(numbers_are_ratios(found))
            self.assertIs(is_room(size, found), True)
            self.assertTrue(all(is_made(room, row) and is_made(other, row) for row in found))
            self.assertEqual(len(joined(size, room, other)) + len(found), len(room) + len(other))
            self.assertEqual(shared(size, other, room), found)

    def test_just_what_both_hold(self):
        chance = random.Random(4)
        for _ in range(12):
            room, other = random_room(chance, 3), random_room(chance, 3)
            found = shared(3, room, other)
            for row in itertools.product((-1, 0, 1, 2), repeat=3):
                row = list(row)
                self.assertIs(is_held(3, found, row), is_made(room, row) and is_made(other, row))

    def test_with_nothing_and_all(self):
        for size, room, _, _ in samples(5, 3):
            self.assertEqual([joined(size, room, []), shared(size, room, [])], [room, []])
            self.assertEqual([joined(size, room, idle(size)), shared(size, room, idle(size))],
                             [steps(size, idle(size)), room])
            self.assertEqual([joined(size, room, room), shared(size, room, room)], [room, room])

    def test_is_held(self):
        for size, room, other, rows in samples(6):
            for row in rows + other + room + [[0] * size]:
                self.assertIs(is_held(size, room, row), is_made(room, row))
                self.assertIs(is_held(size, room, tuple(row)), is_made(room, row))
        self.assertEqual([is_held(0, [], []), is_held(2, [], [0, 0]), is_held(2, [], [0, 1])], [True, True, False])

    def test_greatest_size(self):
        room, other = idle(16)[:9], idle(16)[7:]
        self.assertEqual([len(joined(16, room, other)), len(shared(16, room, other))], [16, 2])


class BehindTest(Case):

    def test_by_its_words(self):
        for size, room, _, rows in samples(7):
            found = behind(size, room, rows)
            self.assertTrue(numbers_are_ratios(found))
            self.assertEqual([len(row) for row in found], [size - len(room)] * len(rows))
            for row, there in zip(rows, ahead(size, room, found)):
                self.assertTrue(is_made(room, [number - other for number, other in zip(row, there)]))

    def test_as_they_stand(self):
        room = [[1, 0, 2, 0], [0, 1, 3, 0]]
        self.assertEqual(repr(behind(4, room, [[1, 1, 1, 1], [Ratio(1, 2), 0, 0, 7]])),
                         "[[Ratio(-4, 1), Ratio(1, 1)], [Ratio(-1, 1), Ratio(7, 1)]]")
        self.assertEqual(behind(3, [], [[1, 2, 3]]), [[Ratio(1), Ratio(2), Ratio(3)]])
        self.assertEqual([behind(2, idle(2), [[1, 2], (0, 0)]), behind(0, [], [[], []]), behind(3, [[0, 1, 0]], [])],
                         [[[], []], [[], []], []])

    def test_held_rows_are_noughts(self):
        for size, room, _, _ in samples(8):
            for row in behind(size, room, room):
                self.assertEqual(row, [Ratio(0)] * (size - len(room)))

    def test_sums_stay_sums(self):
        chance = random.Random(9)
        for size, room, _, _ in samples(9):
            one, other = random_rows(chance, size, 2)
            both = [3 * number - Ratio(1, 2) * taken for number, taken in zip(one, other)]
            there = behind(size, room, [one, other, both])
            self.assertEqual(there[2], [3 * number - Ratio(1, 2) * taken for number, taken in zip(there[0], there[1])])

    def test_ranks(self):
        for size, room, _, rows in samples(10):
            self.assertEqual(rank(size - len(room), behind(size, room, rows)), rank(size, room + rows) - len(room))

    def test_behind_and_behind_again(self):
        for size, room, other, rows in samples(11):
            there = behind(size, room, rows)
            lesser = steps(size - len(room), behind(size, room, other))
            again = behind(size - len(room), lesser, there)
            both = joined(size, room, steps(size, ahead(size, room, lesser)))
            self.assertEqual(behind(size, both, rows), again)


class AheadTest(Case):

    def test_and_back(self):
        chance = random.Random(13)
        for size, room, _, _ in samples(13):
            rows = random_rows(chance, size - len(room), 3)
            found = ahead(size, room, rows)
            self.assertTrue(numbers_are_ratios(found))
            self.assertEqual([len(row) for row in found], [size] * 3)
            self.assertEqual(behind(size, room, found), [[number + Ratio(0) for number in row] for row in rows])

    def test_as_they_stand(self):
        room = [[1, 5, 0, 2], [0, 0, 1, 3]]
        self.assertEqual(repr(ahead(4, room, [[7, Ratio(1, 2)]])),
                         "[[Ratio(0, 1), Ratio(7, 1), Ratio(0, 1), Ratio(1, 2)]]")
        self.assertEqual(repr([ahead(2, [], [(1, 2)]), ahead(2, idle(2), [[]]), ahead(0, [], [[]]), ahead(1, [], [])]),
                         "[[[Ratio(1, 1), Ratio(2, 1)]], [[Ratio(0, 1), Ratio(0, 1)]], [[]], []]")


class BesideTest(Case):

    def test_idle_rows_without_a_head(self):
        for size, room, _, _ in samples(14):
            found = beside(size, room)
            self.assertTrue(numbers_are_ratios(found))
            self.assertEqual(len(found), size - len(room))
            self.assertEqual(rank(size, found + room), size)
            self.assertEqual(fraction_rows(behind(size, room, found)), fraction_rows(idle(size - len(room))))
            self.assertEqual([sorted(str(number) for number in row) for row in found],
                             [["0"] * (size - 1) + ["1"]] * len(found))

    def test_as_they_stand(self):
        self.assertEqual(fraction_rows(beside(4, [[0, 1, 5, 0]])), [[1, 0, 0, 0], [0, 0, 1, 0], [0, 0, 0, 1]])
        self.assertEqual([beside(2, idle(2)), beside(0, []), fraction_rows(beside(2, []))], [[], [], [[1, 0], [0, 1]]])


class ConductTest(Case):

    def test_arguments_and_answers(self):
        for size, room, other, rows in samples(15, 2):
            there = behind(size, room, rows)
            for call in (joined, shared):
                self.answers_alike(call, size=size, room=room, other=other)
            self.answers_alike(behind, size=size, room=room, rows=rows)
            self.answers_alike(ahead, size=size, room=room, rows=there)
            self.answers_alike(beside, size=size, room=room)
            for row in rows[:1]:
                self.answers_alike(is_held, size=size, room=room, row=row)

    def test_tuples_and_integers(self):
        room, other, rows, lesser = [[1, 0, 2]], [[0, 1, -1]], [[3, 1, 0], [1, 0, 2]], [[5, 6]]
        for change in (tupled, rationed, lambda value: tupled(rationed(value))):
            for call, last in ((joined, other), (shared, other), (behind, rows), (ahead, lesser), (is_held, rows[0])):
                self.assertEqual(repr(call(3, change(room), change(last))), repr(call(3, room, last)))
            self.assertEqual(repr(beside(3, change(room))), repr(beside(3, room)))

    def test_wrong_values(self):
        room = [[0, 1, 0]]
        sizes, rooms = (InvalidSize, wrong_sizes(16)), (InvalidRoom, wrong_rooms(3))
        for call in (joined, shared):
            self.refuses(call, {"size": 3, "room": room, "other": []}, {"size": sizes, "room": rooms, "other": rooms})
        self.refuses(is_held, {"size": 3, "room": room, "row": [0, 0, 0]},
                     {"size": sizes, "room": rooms, "row": (InvalidRow, wrong_row(3))})
        self.refuses(behind, {"size": 3, "room": room, "rows": [[0, 0, 0]]},
                     {"size": sizes, "room": rooms, "rows": (InvalidRows, wrong_rows(3))})
        self.refuses(ahead, {"size": 3, "room": room, "rows": [[0, 0]]},
                     {"size": sizes, "room": rooms, "rows": (InvalidRows, wrong_rows(2))})
        self.refuses(beside, {"size": 3, "room": room}, {"size": sizes, "room": rooms})

    def test_room_of_another_size(self):
        for size in (0, 1, 3):
            room = [[1, 0]]
            self.fails(InvalidRoom, {"value": room}, beside, size, room)
            self.fails(InvalidRoom, {"value": room}, joined, size, [], room)

    def test_most_rows(self):
        self.assertEqual(len(behind(1, [], [[1]] * 40)), 40)
        self.assertEqual(len(ahead(2, [[1, 0]], [[1]] * 40)), 40)


if __name__ == "__main__":
    unittest.main()
