"""Rows, steps and ranks [5], [12]; zeros [13]."""

import random
import unittest

from pairsfree.errors import InvalidRows, InvalidSize
from pairsfree.ratios import Ratio
from pairsfree.steps import rank, steps, zeros
from tests.helper import (Case, fraction_rows, numbers_are_ratios, plain_steps, random_rows, rationed, tupled,
                          wrong_rows, wrong_sizes)


def samples():
    """Sizes with rows, of all shapes; the same at each call."""
    chance = random.Random(12)
    return [(size, random_rows(chance, size, many)) for size in (0, 1, 2, 3, 5, 8) for many in (0, 1, 2, 4, 9)
            for _ in range(4)]


def product(row, other):
    return Ratio.total([number * taken for number, taken in zip(row, other)])


class StepsTest(Case):

    def test_as_reckoned_another_way(self):
        for size, rows in samples():
            found = steps(size, rows)
            self.assertTrue(numbers_are_ratios(found))
            self.assertEqual(fraction_rows(found), plain_steps(rows))
            self.assertEqual(rank(size, rows), len(plain_steps(rows)))

    def test_in_steps(self):
        found = steps(4, [[0, 2, 4, 1], [0, 1, 2, 3], [0, 0, 0, 5]])
        self.assertEqual(repr(found), "[[Ratio(0, 1), Ratio(1, 1), Ratio(2, 1), Ratio(0, 1)],"
                                      " [Ratio(0, 1), Ratio(0, 1), Ratio(0, 1), Ratio(1, 1)]]")

    def test_fractions(self):
        found = steps(2, [[Ratio(2, 3), Ratio(-1, 6)]])
        self.assertEqual(repr(found), "[[Ratio(1, 1), Ratio(-1, 4)]]")

    def test_noughts(self):
        self.assertEqual([steps(3, []), steps(3, [[0, 0, 0]] * 2), rank(3, []), rank(3, [[0, 0, Ratio(0)]])],
                         [[], [], 0, 0])

    def test_size_nought(self):
        for rows in ([], [[]], [[], ()], ([],) * 40):
            self.assertEqual([steps(0, rows), rank(0, rows), zeros(0, rows)], [[], 0, []])

    def test_bounds(self):
        row = [1] + [0] * 15
        self.assertEqual([rank(16, [row] * 40), len(steps(16, [row] * 40)), len(zeros(16, [row] * 40))], [1, 1, 15])
        idle = [[1 if place == at else 0 for place in range(16)] for at in range(16)]
        self.assertEqual([rank(16, idle), zeros(16, idle)], [16, []])

    def test_great_numbers(self):
        chance = random.Random(5)
        rows = [[Ratio(chance.randint(-999999, 999999), chance.randint(1, 999999)) for _ in range(6)] for _ in range(5)]
        self.assertEqual(fraction_rows(steps(6, rows)), plain_steps(rows))

    def test_same_rows_made_same_steps(self):
        chance = random.Random(6)
        for size, rows in samples():
            mixed = [list(row) for row in rows]
            chance.shuffle(mixed)
            if len(mixed) > 1:
                mixed[0] = [number + Ratio(-2, 3) * other for number, other in zip(mixed[0], mixed[1])]
                mixed[-1] = [number * 5 for number in mixed[-1]]
            self.assertEqual(steps(size, mixed), steps(size, rows))
            self.assertEqual(steps(size, steps(size, rows)), steps(size, rows))

    def test_a_row_more(self):
        chance = random.Random(7)
        for size, rows in samples():
            if rows:
                times = [chance.randint(-2, 2) for _ in rows]
                made = [product(times, [row[place] for row in rows]) for place in range(size)]
                self.assertEqual(steps(size, rows + [made]), steps(size, rows))
            for row in random_rows(chance, size, 3):
                more = rank(size, rows + [row]) - rank(size, rows)
                self.assertEqual(more, 0 if steps(size, rows + [row]) == steps(size, rows) else 1)
            self.assertLessEqual(rank(size, rows), min(size, len(rows)))

    def test_rank_is_a_count(self):
        self.assertIs(type(rank(2, [[1, 2]])), int)


class ZerosTest(Case):

    def test_sums_of_products(self):
        for size, rows in samples():
            found = zeros(size, rows)
            self.assertTrue(numbers_are_ratios(found))
            for zero in found:
                self.assertEqual([product(row, zero) for row in rows], [Ratio(0)] * len(rows))
            self.assertEqual(len(found), size - rank(size, rows))
            self.assertEqual(found, steps(size, found))

    def test_zeros_of_zeros(self):
        for size, rows in samples():
            self.assertEqual(zeros(size, zeros(size, rows)), steps(size, rows))

    def test_told_by_steps(self):
        self.assertEqual(repr(zeros(3, [[1, 2, 3]])), "[[Ratio(1, 1), Ratio(0, 1), Ratio(-1, 3)],"
                                                      " [Ratio(0, 1), Ratio(1, 1), Ratio(-2, 3)]]")
        self.assertEqual(repr(zeros(2, [])), "[[Ratio(1, 1), Ratio(0, 1)], [Ratio(0, 1), Ratio(1, 1)]]")
        self.assertEqual([zeros(1, [[5]]), repr(zeros(1, [[0]]))], [[], "[[Ratio(1, 1)]]"])


class ConductTest(Case):

    def test_tuples_and_integers(self):
        for call in (steps, rank, zeros):
            for size, rows in samples():
                wanted = repr(call(size, rows))
                self.assertEqual(repr(call(size, tupled(rows))), wanted)
                self.assertEqual(repr(call(size, rationed(rows))), wanted)
                self.assertEqual(repr(call(size, [tuple(row) for row in rows])), wanted)

    def test_arguments_and_answers(self):
        for call in (steps, rank, zeros):
            for size, rows in samples():
                self.answers_alike(call, size=size, rows=rows)
            told = steps(3, [[1, 2, 3], [0, 1, 1]])
            self.answers_alike(call, size=3, rows=told)

    def test_wrong_values(self):
        for call in (steps, rank, zeros):
            for size in (1, 3, 16):
                self.refuses(call, {"size": size, "rows": [[0] * size]},
                             {"size": (InvalidSize, wrong_sizes(16)), "rows": (InvalidRows, wrong_rows(size))})
            self.fails(InvalidRows, {"value": [[0]]}, call, 0, [[0]])
            self.fails(InvalidRows, {"value": [[]] * 41}, call, 0, [[]] * 41)


if __name__ == "__main__":
    unittest.main()
