"""Pairs [6], [21]."""

import random
import unittest

from pairsfree.errors import InvalidLot, InvalidPlace, InvalidRows, InvalidSize
from pairsfree.pairs import Pairs
from pairsfree.ratios import Ratio
from tests.helper import Case, kinds, rationed, sample_pairs, spoil, tupled, wrong_row, wrong_sizes

ROWS = [([1, 0, 2], [0, Ratio(1, 2), 0]), ([0, 0, 0], [3, 3, 3]), ([1, 0, 2], [0, Ratio(1, 2), 0])]
TOLD = ("[([Ratio(1, 1), Ratio(0, 1), Ratio(2, 1)], [Ratio(0, 1), Ratio(1, 2), Ratio(0, 1)]),"
        " ([Ratio(0, 1), Ratio(0, 1), Ratio(0, 1)], [Ratio(3, 1), Ratio(3, 1), Ratio(3, 1)]),"
        " ([Ratio(1, 1), Ratio(0, 1), Ratio(2, 1)], [Ratio(0, 1), Ratio(1, 2), Ratio(0, 1)])]")


def wrong_pair_rows(size):
    """Values of many kinds that are no rows of pairs of the size, which is at least 1."""
    row = [0] * size
    return [None, True, 0, "", {}, set(), object(), Ratio(1), range(0), Pairs(size, []), [(row, row)] * 9,
            tuple([(row, row)] * 9), [row], [(row,)], [(row, row, row)], [()], [None], ["00"], [(row, row), (row,)],
            [(row, None)], [{0: row, 1: row}], [(row + [0], row + [0])], [(row, row), [row, row[1:]]]] + [
            [(row, row), (row, value)] for value in wrong_row(size)] + [[(value, row)] for value in wrong_row(size)]


class PairsTest(Case):

    def test_told(self):
        pairs = Pairs(3, ROWS)
        self.assertEqual(repr(pairs.told()), TOLD)
        self.assertEqual((pairs.size, pairs.many), (3, 3))
        self.assertEqual((type(pairs.size), type(pairs.many)), (int, int))
        self.assertEqual(repr(pairs), f"Pairs(3, {TOLD})")

    def test_pair(self):
        pairs = Pairs(3, ROWS)
        for place in range(3):
            found = pairs.pair(place)
            self.assertEqual(repr(found), repr(pairs.told()[place]))
            self.assertEqual((type(found), type(found[0]), type(found[1])), (tuple, list, list))
        self.assertEqual(repr(pairs.pair(place=1)), repr(pairs.pair(1)))

    def test_lot_rows(self):
        pairs = Pairs(3, ROWS)
        told = pairs.told()
        self.assertEqual(repr(pairs.lot_rows([1, 2])), repr([told[1][0], told[1][1], told[2][0], told[2][1]]))
        self.assertEqual(repr(pairs.lot_rows(lot=(0,))), repr(list(told[0])))
        self.assertEqual([pairs.lot_rows([]), pairs.lot_rows(())], [[], []])

    def test_sizes_and_numbers(self):
        for size in range(9):
            for many in range(9):
                pairs = Pairs(size, [([1] * size, [0] * size)] * many)
                self.assertEqual((pairs.size, pairs.many, len(pairs.told())), (size, many, many))
        self.assertEqual(repr([Pairs(0, []), Pairs(0, [([], ())]), Pairs(2, ())]),
                         "[Pairs(0, []), Pairs(0, [([], [])]), Pairs(2, [])]")

    def test_lists_tuples_and_numbers(self):
        wanted = Pairs(3, ROWS)
        for rows in (tupled(ROWS), rationed(ROWS), [list(pair) for pair in ROWS], tupled(rationed(ROWS)),
                     wanted.told()):
            self.assertEqual(Pairs(3, rows), wanted)
            self.assertEqual(repr(Pairs(rows=rows, size=3)), repr(wanted))

    def test_equal(self):
        pairs = Pairs(3, ROWS)
        self.assertIs(pairs == Pairs(3, ROWS), True)
        self.assertIs(pairs != Pairs(3, ROWS), False)
        swapped = [(second, first) for first, second in ROWS]
        others = [Pairs(3, ROWS[:2]), Pairs(3, swapped), Pairs(3, ROWS[1:] + ROWS[:1]), Pairs(3, []), Pairs(0, []),
                  Pairs(3, ROWS[:2] + [([1, 0, 2], [0, Ratio(1, 2), 1])])]
        for other in others + [ROWS, pairs.told(), (3, pairs.told()), repr(pairs), None, 3] + kinds():
            self.assertIs(pairs == other, False)
            self.assertIs(other == pairs, False)
            self.assertIs(pairs != other, True)
        self.assertEqual([Pairs(0, []) == Pairs(1, []), Pairs(2, []) == Pairs(2, [])], [False, True])
        self.assertIs(Pairs(0, [([], [])]) == Pairs(0, [([], [])] * 2), False)

    def test_copies_what_it_is_given(self):
        rows = [([1, 2], [3, 4]), [[5, 6], [7, 8]]]
        pairs, wanted = Pairs(2, rows), Pairs(2, [([1, 2], [3, 4]), ([5, 6], [7, 8])])
        spoil(rows)
        rows[0][0][0] = 9
        self.assertEqual(repr(pairs), repr(wanted))

    def test_one_list_for_all_rows(self):
        row = [1, 2]
        told = Pairs(2, [(row, row), (row, row)]).told()
        lists = [told] + [part for pair in told for part in pair]
        self.assertEqual(len({id(part) for part in lists}), 5)
        self.assertEqual(row, [1, 2])

    def test_returned_lists_are_new(self):
        for pairs in sample_pairs(1, 1):
            wanted = repr(pairs)
            spoil(pairs.told())
            spoil(pairs.lot_rows(list(range(pairs.many))))
            for place in range(pairs.many):
                spoil(pairs.pair(place))
            self.assertEqual(repr(pairs), wanted)
            rows = pairs.lot_rows(list(range(pairs.many)))
            self.assertEqual(len({id(row) for row in rows}), 2 * pairs.many)

    def test_never_changes(self):
        pairs = Pairs(2, [([1, 2], [3, 4])])
        for name in ("size", "many"):
            with self.assertRaises(AttributeError):
                setattr(pairs, name, 0)

    def test_arguments_and_answers(self):
        pairs = Pairs(3, ROWS)
        self.answers_alike(Pairs, size=3, rows=ROWS)
        self.answers_alike(pairs.lot_rows, lot=[0, 2])
        self.answers_alike(pairs.pair, place=1)
        self.answers_alike(pairs.told)

    def test_wrong_values(self):
        for size in (1, 3, 8):
            self.refuses(Pairs, {"size": size, "rows": []},
                         {"size": (InvalidSize, wrong_sizes(8)), "rows": (InvalidRows, wrong_pair_rows(size))})
        for value in ([([0], [0])], [([], [0])], [[[]]], [[]], [([], [], [])]):
            self.fails(InvalidRows, {"value": value}, Pairs, 0, value)

    def test_wrong_places(self):
        for many in (0, 1, 3):
            pairs = Pairs(3, ROWS[:many])
            for value in [many, many + 1, -1, 10 ** 30, True, False, None, "0", Ratio(0), [0], (0,), {}, object()]:
                self.fails(InvalidPlace, {"value": value}, pairs.pair, value)
                self.fails(InvalidPlace, {"value": value}, pairs.pair, place=value)

    def test_wrong_lots(self):
        pairs = Pairs(3, ROWS)
        for value in [[1, 0], [0, 0], [3], [0, 3], [-1], [-1, 0], [True], [False], [0, True], [Ratio(0)], ["0"], [[0]],
                      (2, 1), (0, 0), None, 0, True, "", "01", {}, {0: 1}, {0}, range(2), [None], object(), [10 ** 30]]:
            self.fails(InvalidLot, {"value": value}, pairs.lot_rows, value)
        self.fails(InvalidLot, {"value": [0]}, Pairs(3, []).lot_rows, [0])

    def test_any_two_rows(self):
        chance = random.Random(2)
        row = [chance.randint(-3, 3) for _ in range(4)]
        twice = [2 * number for number in row]
        pairs = Pairs(4, [(row, row), (row, twice), ([0] * 4, [0] * 4), (row, row)])
        self.assertEqual(pairs.many, 4)
        self.assertEqual(pairs.pair(0), pairs.pair(3))


if __name__ == "__main__":
    unittest.main()
