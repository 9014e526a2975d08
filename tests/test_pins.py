"""Moves of frames with pins [85], and the fewest pins [86], [87]."""

import itertools
import random
import unittest

from pairsfree.bounds import worth
from pairsfree.engine import bound
from pairsfree.errors import InvalidFrame, InvalidPins
from pairsfree.frames import Frame, frame_pairs
from pairsfree.lots import greatest
from pairsfree.pins import fewest_pins, is_move, is_pins, moves, pins, stands
from pairsfree.ratios import Ratio
from tests.helper import (WRONG_FRAMES, Case, fraction_rows, is_told_room, kinds, pinned_rows, plain_fewest, plain_rank,
                          plain_stands, plain_steps, plain_zeros, random_rows, rationed, sample_frames, tupled,
                          wrong_row)

THREE = Frame([(0, 0), (1, 0), (0, 1)], [(0, 1), (0, 2), (1, 2)])
SQUARE = Frame([(0, 0), (1, 0), (1, 1), (0, 1)], [(0, 1), (1, 2), (2, 3), (0, 3)])
# Of three points.
WRONG_PINS = [None, True, 0, "", "01", {}, {0: 1}, {0, 1}, object(), Ratio(0), range(2), [1, 0], [0, 0], [0, 1, 1], [3],
              [0, 3], [-1], [True], [False, 1], [0, True], [Ratio(0)], [0, Ratio(1)], ["0"], [[0]], (2, 1), (0, 0),
              [None],
              [0, 10 ** 30], [(0, 1)], iter([0, 1])]


def all_pins(frame):
    return [list(lot) for many in range(frame.many + 1) for lot in itertools.combinations(range(frame.many), many)]


def some_pins(chance, frame):
    found = all_pins(frame)
    return [found[0], found[-1]] + chance.sample(found, min(3, len(found)))


def is_plain_move(frame, held, row):
    """Whether the row is a move, by the words."""
    row = fraction_rows([row])[0]
    sums = [sum(number * taken for number, taken in zip(row, line)) for line in pinned_rows(frame, held)]
    return any(row) and not any(sums)


class MovesTest(Case):

    def test_all_moves(self):
        chance = random.Random(151)
        for frame in sample_frames(151):
            for held in some_pins(chance, frame):
                found = moves(frame, held)
                self.assertTrue(is_told_room(2 * frame.many, found))
                self.assertEqual(fraction_rows(found),
                                 plain_steps(plain_zeros(2 * frame.many, pinned_rows(frame, held))))
                self.assertEqual(moves(frame, tuple(held)), found)
                self.assertTrue(all(is_plain_move(frame, held, row) for row in found))

    def test_stands(self):
        chance = random.Random(152)
        found = set()
        for frame in sample_frames(152):
            for held in some_pins(chance, frame):
                wanted = plain_stands(frame, held)
                self.assertIs(stands(frame, held), wanted)
                self.assertIs(stands(frame, tuple(held)), wanted)
                found.add(wanted)
            self.assertIs(stands(frame, list(range(frame.many))), True)
            self.assertIs(stands(frame, []), frame.many == 0)
        self.assertEqual(found, {True, False})

    def test_is_move(self):
        chance = random.Random(153)
        found = set()
        for frame in sample_frames(153):
            size = 2 * frame.many
            for held in some_pins(chance, frame):
                rows = moves(frame, held)
                mixed = [[sum((taken[place] * times for taken, times in zip(rows, (2, -1, Ratio(1, 3)))), Ratio(0))
                          for place in range(size)]]
                for row in random_rows(chance, size, 2) + rows + mixed + [[0] * size]:
                    wanted = is_plain_move(frame, held, row)
                    self.assertIs(is_move(frame, held, row), wanted)
                    self.assertIs(is_move(frame, tuple(held), tuple(row)), wanted)
                    found.add(wanted)
        self.assertEqual(found, {True, False})

    def test_as_they_stand(self):
        self.assertEqual(moves(THREE, [0]), rationed([[0, 0, 0, 1, -1, 0]]))
        self.assertEqual(moves(SQUARE, [0, 1]), rationed([[0, 0, 0, 0, 1, 0, 1, 0]]))
        self.assertEqual([len(moves(SQUARE, [])), stands(SQUARE, [0, 2]), stands(SQUARE, [0, 1, 2])], [4, True, True])
        self.assertEqual([is_move(SQUARE, [0, 1], [0, 0, 0, 0, -3, 0, -3, 0]),
                          is_move(SQUARE, [0, 1], [0, 0, 0, 0, -3, 0, -2, 0]),
                          is_move(SQUARE, [], [1, 0] * 4), is_move(SQUARE, [3], [1, 0] * 4)],
                         [True, False, True, False])

    def test_edges(self):
        self.assertEqual([moves(Frame([], []), []), stands(Frame([], []), []), is_move(Frame([], []), [], [])],
                         [[], True, False])
        self.assertEqual(moves(Frame([(1, 2)], []), []), rationed([[1, 0], [0, 1]]))
        self.assertEqual(moves(Frame([(1, 2)], []), (0,)), [])
        loose = Frame([(1, 2)] * 5, [(0, 1), (3, 4)] * 4)
        self.assertEqual([len(moves(loose, [])), len(moves(loose, [1, 4])), stands(loose, [0, 1, 2, 3, 4])],
                         [10, 6, True])

    def test_values_of_every_kind(self):
        good = [0, 0, 0, 2, -2, 0]
        for value in wrong_row(6) + kinds() + [[0] * 6, good[:-1], good + [0], good[:-1] + [False], [good],
                                               dict(enumerate(good)), iter(good)]:
            self.assertIs(is_move(THREE, [0], value), False)
        for value in (good, tuple(good), rationed(good)):
            self.assertIs(is_move(THREE, [0], value), True)
        for value in kinds():
            self.assertIs(is_move(Frame([], []), [], value), False)
        self.assertIs(is_move(Frame([(0, 0)], []), [], [True, 0]), False)
        self.assertIs(is_move(Frame([(0, 0)], []), [], [1, False]), False)


class PinsTest(Case):

    def test_fewest(self):
        for frame in sample_frames(154, 4):
            number = plain_fewest(frame)
            self.assertEqual(fewest_pins(frame), number)
            self.assertIs(type(fewest_pins(frame)), int)
            self.assertEqual(frame.many - greatest(frame_pairs(frame)), number)
            found = pins(frame)
            self.assertEqual((type(found), found, len(found)), (list, sorted(set(found)), number))
            self.assertEqual({type(pin) for pin in found} - {int}, set())
            self.assertTrue(plain_stands(frame, found))
            self.assertIs(is_pins(frame, found), True)

    def test_is_pins(self):
        for frame in sample_frames(155, 1):
            for held in all_pins(frame):
                wanted = plain_stands(frame, held)
                self.assertIs(is_pins(frame, held), wanted)
                self.assertIs(is_pins(frame, tuple(held)), wanted)
                if wanted:
                    more = sorted(set(held) | {frame.many - 1}) if frame.many else []
                    self.assertIs(is_pins(frame, more), True)

    def test_shown_by_a_bound(self):
        for frame in sample_frames(156):
            pairs = frame_pairs(frame)
            room, parting = bound(pairs)
            self.assertEqual(frame.many - worth(pairs, room, parting), fewest_pins(frame))
            self.assertLessEqual(2 * (frame.many - fewest_pins(frame)), plain_rank(pairs.lot_rows(range_of(pairs))))

    def test_edges(self):
        self.assertEqual([fewest_pins(Frame([], [])), pins(Frame([], [])), is_pins(Frame([], []), [])], [0, [], True])
        for many in range(6):
            self.assertEqual(pins(Frame([(0, 0)] * many, [])), list(range(many)))
        self.assertEqual(fewest_pins(Frame([(0, 0), (1, 1), (2, 2)], [(0, 1), (0, 2), (1, 2)])), 3)
        self.assertEqual(fewest_pins(Frame([(0, 0), (1, 0), (0, 1)], [(0, 1), (0, 2), (1, 2)])), 2)
        self.assertEqual(fewest_pins(Frame([(0, 0), (1, 0), (0, 1)], [(0, 2), (0, 2), (1, 2)])), 2)

    def test_values_of_every_kind(self):
        for value in WRONG_PINS + kinds():
            self.assertIs(is_pins(THREE, value), False)
        for value in kinds():
            self.assertIs(is_pins(Frame([], []), value), type(value) in (list, tuple) and len(value) == 0)
        for value in ([0, 1], (1, 2), [0, 1, 2]):
            self.assertIs(is_pins(THREE, value), True)


def range_of(pairs):
    return list(range(pairs.many))


class ConductTest(Case):

    def test_arguments_and_answers(self):
        for frame in (THREE, SQUARE, Frame([], []), Frame([(0, 1), (2, Ratio(1, 3))], [(0, 1)] * 8)):
            for held in all_pins(frame)[:3]:
                for form in (list, tuple):
                    for call in (moves, stands):
                        self.answers_alike(call, frame=frame, pins=form(held))
                    self.answers_alike(is_pins, frame=frame, value=form(held))
                    for value in ([0] * 6, tupled(moves(frame, [])), [1] * 6):
                        self.answers_alike(is_move, frame=frame, pins=form(held), value=value)
            for call in (fewest_pins, pins):
                self.answers_alike(call, frame=frame)

    def test_wrong_values(self):
        frames, held = (InvalidFrame, WRONG_FRAMES + [Frame]), (InvalidPins, WRONG_PINS)
        for call in (moves, stands):
            self.refuses(call, {"frame": THREE, "pins": [0]}, {"frame": frames, "pins": held})
            self.fails(InvalidPins, {"value": [0]}, call, Frame([], []), [0])
        self.refuses(is_move, {"frame": THREE, "pins": [0], "value": None}, {"frame": frames, "pins": held})
        self.refuses(is_pins, {"frame": THREE, "value": None}, {"frame": frames})
        for call in (fewest_pins, pins):
            self.refuses(call, {"frame": THREE}, {"frame": frames})


if __name__ == "__main__":
    unittest.main()
