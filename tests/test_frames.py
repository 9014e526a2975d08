"""Frames [84], and the pairs of their points [86]."""

import random
import unittest

from pairsfree.errors import InvalidBars, InvalidFrame, InvalidPoints
from pairsfree.frames import Frame, bar_table, frame_pairs
from pairsfree.lots import is_free
from pairsfree.pairs import Pairs
from pairsfree.ratios import Ratio
from tests.helper import (WRONG_FRAMES, Case, fraction_rows, kinds, numbers_are_ratios, plain_stands, rationed,
                          sample_frames, spoil)

POINTS, BARS = [(0, 0), (1, 0), (0, 1)], [(0, 1), (0, 2), (1, 2)]
THREE = Frame(POINTS, BARS)
WRONG_POINTS = [None, True, 0, "", "00", {}, {(0, 0): 1}, {(0, 0)}, object(), Ratio(1), range(3), [(0, 0)] * 6,
                tuple([(0, 0)] * 6), [[0, 0]], [(0, 0), [0, 0]], [(0,)], [(0, 0, 0)], [()], [None], [0], ["00"],
                [(True, 0)], [(0, False)], [(0, "0")], [(0, None)], [(0, (0,))], [((0, 0),)], (0, 0), iter([(0, 0)]),
                [(0, 0), (0, 0), (0, 1j)], [{0, 1}], [{0: 0, 1: 1}], Pairs(0, [])]
WRONG_BARS = [None, True, 0, "", "01", {}, {(0, 1): 1}, {(0, 1)}, object(), Ratio(1), range(2), [(0, 1)] * 9,
              tuple([(0, 1)] * 9), [[0, 1]], [(0, 1), [0, 1]], [(1, 0)], [(1, 1)], [(0, 3)], [(3, 4)], [(-1, 0)],
              [(0,)], [(0, 1, 2)], [()], [None], [0], ["01"], [(False, 1)], [(0, True)], [(0, Ratio(1))], [(0, "1")],
              [(0, None)], [(0, 1), (0, 1), (2, 1)], [((0, 1),)], (0, 1), iter([(0, 1)]), [(0, 10 ** 30)]]


class FrameTest(Case):

    def test_told(self):
        samples = [(POINTS, BARS), ([], []), ([(0, 0)] * 5, []), ([(Ratio(1, 2), -3), (2, Ratio(4, 2))], [(0, 1)] * 8),
                   ([(0, 0)] * 5, [(0, 4), (3, 4), (0, 1), (0, 4)])]
        for points, bars in samples:
            for frame in (Frame(points, bars), Frame(tuple(points), tuple(bars)), Frame(bars=bars, points=points)):
                self.assertEqual((frame.many, frame.points(), frame.bars()), (len(points), rationed(points), bars))
                self.assertEqual((type(frame.many), type(frame.points()), type(frame.bars())), (int, list, list))
                self.assertEqual({type(part) for part in frame.points() + frame.bars()} - {tuple}, set())
                self.assertEqual({type(number) for point in frame.points() for number in point} - {Ratio}, set())
                self.assertEqual(repr(frame), f"Frame({rationed(points)!r}, {bars!r})")

    def test_equal(self):
        self.assertIs(THREE == Frame([(Ratio(0), 0), (1, 0), (0, Ratio(3, 3))], tuple(BARS)), True)
        self.assertIs(THREE != Frame(POINTS, BARS), False)
        for other in [Frame(POINTS, BARS[:2]), Frame(POINTS[::-1], BARS), Frame(POINTS, BARS[::-1]),
                      Frame(POINTS + [(0, 0)], BARS), Frame([(0, 0), (1, 0), (0, 2)], BARS), Frame([], []),
                      (POINTS, BARS),
                      repr(THREE), frame_pairs(THREE), bar_table(THREE)] + kinds():
            self.assertIs(THREE == other, False)
            self.assertIs(other == THREE, False)
            self.assertIs(THREE != other, True)
        self.assertEqual([Frame([], []) == Frame((), ()), Frame([(0, 0)], []) == Frame([(0, 0)] * 2, [])],
                         [True, False])

    def test_never_changes(self):
        points, bars = list(POINTS), list(BARS)
        frame = Frame(points, bars)
        told = repr(frame)
        for value in (points, bars, frame.points(), frame.bars()):
            spoil(value)
            value.clear()
        self.assertEqual(repr(frame), told)
        with self.assertRaises(AttributeError):
            frame.many = 1

    def test_wrong_values(self):
        self.refuses(Frame, {"points": POINTS, "bars": BARS},
                     {"points": (InvalidPoints, WRONG_POINTS), "bars": (InvalidBars, WRONG_BARS)})
        for points in ([], [(0, 0)]):
            self.fails(InvalidBars, {"value": [(0, 1)]}, Frame, points, [(0, 1)])


class TableTest(Case):

    def test_as_the_words_tell(self):
        for frame in sample_frames(141):
            table, points, bars = bar_table(frame), fraction_rows(frame.points()), frame.bars()
            self.assertTrue(numbers_are_ratios(table))
            self.assertEqual(len(table), len(bars))
            for row, (i, j) in zip(fraction_rows(table), bars):
                self.assertEqual(len(row), 2 * frame.many)
                across, up = points[i][0] - points[j][0], points[i][1] - points[j][1]
                wanted = {2 * i: across, 2 * i + 1: up, 2 * j: -across, 2 * j + 1: -up}
                self.assertEqual(row, [wanted.get(place, 0) for place in range(2 * frame.many)])

    def test_pairs_of_columns(self):
        for frame in sample_frames(142):
            found, table = frame_pairs(frame), bar_table(frame)
            self.assertIs(type(found), Pairs)
            self.assertEqual((found.size, found.many), (len(table), frame.many))
            for point, (across, up) in enumerate(found.told()):
                self.assertEqual(across, [row[2 * point] for row in table])
                self.assertEqual(up, [row[2 * point + 1] for row in table])

    def test_free_just_if_it_stands_with_all_others_pinned(self):
        chance = random.Random(143)
        found = set()
        for frame in sample_frames(143):
            for _ in range(4):
                pins = sorted(chance.sample(range(frame.many), chance.randint(0, frame.many)))
                others = [point for point in range(frame.many) if point not in pins]
                free = is_free(frame_pairs(frame), others)
                self.assertIs(free, plain_stands(frame, pins))
                found.add((free, len(others) > 1))
        self.assertEqual(found, {(True, False), (True, True), (False, False), (False, True)})

    def test_edges(self):
        self.assertEqual([bar_table(Frame([], [])), bar_table(Frame([(1, 2)], []))], [[], []])
        self.assertEqual(frame_pairs(Frame([(1, 2)] * 5, [])), Pairs(0, [([], [])] * 5))
        one_place = Frame([(1, 2), (1, 2)], [(0, 1), (0, 1)])
        self.assertEqual(bar_table(one_place), rationed([[0] * 4] * 2))
        whole = Frame([(0, 0)] * 4 + [(Ratio(1, 2), -1)], [(0, 4)] * 8)
        self.assertEqual(bar_table(whole)[7], rationed([Ratio(-1, 2), 1, 0, 0, 0, 0, 0, 0, Ratio(1, 2), -1]))
        self.assertEqual((frame_pairs(whole).size, frame_pairs(whole).many), (8, 5))


class ConductTest(Case):

    def test_arguments_and_answers(self):
        for frame in (THREE, Frame([], []), Frame([(0, 0)], []), Frame([(0, 1), (2, Ratio(1, 3))], [(0, 1)] * 8)):
            for call in (bar_table, frame_pairs):
                self.answers_alike(call, frame=frame)
            for call in (frame.points, frame.bars):
                self.answers_alike(call)
        self.answers_alike(Frame, points=POINTS, bars=BARS)
        self.answers_alike(Frame, points=tuple(POINTS), bars=tuple(BARS))
        table = bar_table(Frame([(1, 1), (1, 1)], [(0, 1)] * 3))
        self.assertEqual(len({id(row) for row in table}), 3)

    def test_wrong_values(self):
        for call in (bar_table, frame_pairs):
            self.refuses(call, {"frame": THREE}, {"frame": (InvalidFrame, WRONG_FRAMES + [Frame])})


if __name__ == "__main__":
    unittest.main()
