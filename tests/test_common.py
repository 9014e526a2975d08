"""The shared room [41], and pairs behind a row [42] or a room."""

import itertools
import random
import unittest

from pairsfree.common import behind_room, behind_row, common_room, is_common
from pairsfree.errors import InvalidPairs, InvalidRoom, InvalidRow, NoughtRow
from pairsfree.lots import greatest
from pairsfree.pairs import Pairs
from pairsfree.ratios import Ratio
from pairsfree.steps import steps
from tests.helper import (WRONG_PAIRS, Case, few_pairs, fraction_rows, idle, is_in_all_rooms, is_told_room, kinds,
                          lots_behind, plain_behind, plain_common, plain_greatest, random_room, random_rows, rationed,
                          sample_pairs, tupled, wrong_rooms, wrong_row)

IDLE = idle(4)
STAR = Pairs(4, [(IDLE[0], IDLE[1]), (IDLE[0], IDLE[2]), (IDLE[0], IDLE[3])])
RING = Pairs(3, [([1, 0, 0], [0, 1, 0]), ([0, 1, 0], [0, 0, 1]), ([1, 0, 0], [0, 0, 1])])


class CommonTest(Case):

    def test_as_it_stands(self):
        self.assertEqual(common_room(STAR), steps(4, [IDLE[0]]))
        self.assertEqual(common_room(RING), [])
        self.assertEqual(common_room(Pairs(4, STAR.told()[:1])), steps(4, IDLE[:2]))
        self.assertEqual(common_room(Pairs(4, [(IDLE[0], IDLE[1]), (IDLE[2], IDLE[3])])), steps(4, IDLE))
        self.assertEqual(common_room(Pairs(4, [([1, 0, 0, 2], [0, 2, 0, 0])])), steps(4, [[1, 0, 0, 2], [0, 1, 0, 0]]))

    def test_nothing(self):
        for pairs in (Pairs(0, []), Pairs(3, []), Pairs(0, [([], [])]), Pairs(1, [([1], [2])] * 8),
                      Pairs(2, [([1, 2], [2, 4])]), Pairs(8, [([0] * 8, [0] * 8)] * 8)):
            self.assertEqual(common_room(pairs), [])

    def test_eight_pairs(self):
        rows = idle(8)
        eight = Pairs(8, [(rows[0], rows[at]) for at in (1, 2, 3)] + [(rows[at], rows[4]) for at in (5, 6, 7)]
                      + [(rows[0], rows[0]), ([0] * 8, rows[1])])
        self.assertEqual(common_room(eight), steps(8, [rows[0], rows[4]]))
        self.assertEqual(common_room(Pairs(8, [(rows[at], rows[at + 1]) for at in (0, 2, 4, 6)] * 2)), steps(8, rows))

    def test_against_a_plain_search(self):
        for pairs in few_pairs(41) + sample_pairs(41, 1):
            found = common_room(pairs)
            self.assertTrue(is_told_room(pairs.size, found))
            self.assertEqual(fraction_rows(found), plain_common(pairs))
            self.assertTrue(all(is_in_all_rooms(pairs, row) for row in found))

    def test_is_common(self):
        chance = random.Random(42)
        told = []
        for pairs in few_pairs(42):
            room = common_room(pairs)
            rows = random_rows(chance, pairs.size, 2) + [[0] * pairs.size] + room
            if len(room) > 1:
                rows.append([one - 3 * other for one, other in zip(room[0], room[1])])
            for row in rows:
                told.append(is_in_all_rooms(pairs, row))
                self.assertIs(is_common(pairs, row), told[-1])
        self.assertEqual(set(told), {True, False})

    def test_each_small_row(self):
        pairs = Pairs(3, [([1, 1, 0], [0, 0, 1]), ([1, 1, 0], [0, 1, 0]), ([1, 1, 0], [2, 2, 0])])
        for row in itertools.product((-1, 0, 1, 2), repeat=3):
            self.assertIs(is_common(pairs, row), row[0] == row[1] and row[2] == 0)

    def test_noughts_are_common(self):
        for pairs in (STAR, RING, Pairs(0, []), Pairs(2, [])):
            self.assertIs(is_common(pairs, [0] * pairs.size), True)
            self.assertIs(is_common(pairs, (Ratio(0),) * pairs.size), True)


class BehindTest(Case):

    def test_behind_a_row(self):
        self.assertEqual(behind_row(STAR, [2, 0, 0, 0]), Pairs(3, [
            ([0, 0, 0], [1, 0, 0]), ([0, 0, 0], [0, 1, 0]), ([0, 0, 0], [0, 0, 1])]))
        self.assertEqual(behind_row(Pairs(2, [([3, 4], [1, 2])]), [2, 4]), Pairs(1, [([-2], [0])]))
        self.assertEqual(behind_row(Pairs(1, [([3], [0])]), [Ratio(1, 7)]), Pairs(0, [([], [])]))
        self.assertEqual(behind_row(Pairs(3, []), [0, 0, -1]), Pairs(2, []))

    def test_by_its_words(self):
        chance = random.Random(43)
        for pairs in few_pairs(43):
            room = random_room(chance, pairs.size)
            found = behind_room(pairs, room)
            self.assertIs(type(found), Pairs)
            self.assertEqual((found.size, found.many), (pairs.size - len(room), pairs.many))
            self.assertEqual(found, plain_behind(pairs, room))
            for row in random_rows(chance, pairs.size, 2):
                if steps(pairs.size, [row]):
                    self.assertEqual(behind_row(pairs, row), plain_behind(pairs, [row]))

    def test_behind_a_room(self):
        self.assertEqual(behind_room(RING, []), RING)
        self.assertEqual(behind_room(RING, idle(3)), Pairs(0, [([], [])] * 3))
        self.assertEqual(behind_room(Pairs(0, []), []), Pairs(0, []))
        self.assertEqual(behind_room(Pairs(0, [([], [])]), ()), Pairs(0, [([], [])]))
        self.assertEqual(behind_room(Pairs(3, [([1, 2, 3], [4, 5, 6])]), [[1, 0, 1], [0, 1, -1]]),
                         Pairs(1, [([4], [7])]))
        eight = Pairs(8, [(idle(8)[0], idle(8)[1])] * 8)
        self.assertEqual(behind_room(eight, [idle(8)[1]]), Pairs(7, [(idle(7)[0], [0] * 7)] * 8))

    def test_behind_a_row_the_number_falls_or_stays(self):
        chance = random.Random(44)
        falls = []
        for pairs in few_pairs(44) + sample_pairs(44, 1):
            number = plain_greatest(pairs)
            for row in random_rows(chance, pairs.size, 1) + common_room(pairs)[:1] + idle(pairs.size)[:1]:
                if steps(pairs.size, [row]):
                    fall = number - greatest(behind_row(pairs, row))
                    falls.append(fall)
                    self.assertEqual(fall, 1 if is_common(pairs, row) else 0)
                    self.assertEqual(number - fall, plain_greatest(pairs, [row]))
        self.assertEqual(set(falls), {0, 1})

    def test_behind_a_room_that_is_shared(self):
        for pairs in few_pairs(45):
            room = common_room(pairs)
            for length in range(len(room) + 1):
                there = behind_room(pairs, steps(pairs.size, room[:length]))
                self.assertLessEqual(plain_greatest(pairs) - greatest(there), length)

    def test_what_is_free_behind_a_room_is_free(self):
        chance = random.Random(46)
        for pairs in few_pairs(46):
            room = random_room(chance, pairs.size)
            there = behind_room(pairs, room)
            for many in range(3):
                lots = lots_behind(there, [], many)
                self.assertEqual(lots, lots_behind(pairs, room, many))
                self.assertTrue(all(lot in lots_behind(pairs, [], many) for lot in lots))


class ConductTest(Case):

    def test_arguments_and_answers(self):
        for pairs in (STAR, Pairs(4, []), Pairs(4, STAR.told() * 2)):
            self.answers_alike(common_room, pairs=pairs)
            self.answers_alike(is_common, pairs=pairs, row=[1, 0, Ratio(1, 2), 0])
            self.answers_alike(behind_row, pairs=pairs, row=[2, 0, Ratio(1, 2), 0])
            self.answers_alike(behind_room, pairs=pairs, room=[[1, 0, Ratio(1, 2), 0], (0, 0, 0, 1)])

    def test_lists_are_not_shared(self):
        found = common_room(Pairs(4, [(IDLE[0], IDLE[1]), (IDLE[2], IDLE[3])]))
        self.assertEqual(len({id(row) for row in [found] + found}), 5)

    def test_tuples_and_integers(self):
        row, room = [1, 2, 0, 3], [[1, 0, 0, 3], [0, 1, 0, -1]]
        for told in (tupled, rationed):
            self.assertEqual(behind_row(STAR, told(row)), behind_row(STAR, row))
            self.assertEqual(behind_room(STAR, told(room)), behind_room(STAR, room))
            self.assertIs(is_common(STAR, told([5, 0, 0, 0])), True)
            self.assertIs(is_common(STAR, told(row)), False)

    def test_wrong_values(self):
        pairs, rows, rooms = (InvalidPairs, WRONG_PAIRS), (InvalidRow, wrong_row(4)), (InvalidRoom, wrong_rooms(4))
        self.refuses(common_room, {"pairs": STAR}, {"pairs": pairs})
        for call in (is_common, behind_row):
            self.refuses(call, {"pairs": STAR, "row": [1, 0, 0, 0]}, {"pairs": pairs, "row": rows})
        self.refuses(behind_room, {"pairs": STAR, "room": [[1, 0, 0, 0]]}, {"pairs": pairs, "room": rooms})
        for value in kinds():
            if not (type(value) in (list, tuple) and len(value) == 0):
                self.fails(InvalidRow, {"value": value}, is_common, Pairs(0, []), value)
                self.fails(InvalidRow, {"value": value}, behind_row, Pairs(0, []), value)
                self.fails(InvalidRoom, {"value": value}, behind_room, Pairs(0, []), value)

    def test_nought_rows(self):
        for row in ([0] * 4, (0,) * 4, [Ratio(0)] * 4, [0, Ratio(0), 0, Ratio(0, 5)]):
            self.fails(NoughtRow, {}, behind_row, STAR, row)
            self.fails(InvalidPairs, {"value": 4}, behind_row, 4, row)
        for row in ([], ()):
            self.fails(NoughtRow, {}, behind_row, Pairs(0, []), row)
            self.fails(InvalidRow, {"value": row}, behind_row, STAR, row)
        self.fails(InvalidRow, {"value": [0, 0, 0, False]}, behind_row, STAR, [0, 0, 0, False])


if __name__ == "__main__":
    unittest.main()
