"""Partings [7]: finer ones [35], how many there are [36]."""

import itertools
import unittest

from pairsfree.errors import InvalidMany, InvalidPairs, InvalidParting
from pairsfree.pairs import Pairs
from pairsfree.partings import is_finer, is_parting, partings, told_parting
from pairsfree.ratios import Ratio
from tests.helper import WRONG_PAIRS, WRONG_PARTINGS, Case, kinds, plain_partings, tupled

WRONG_MANIES = [7, 8, -1, None, True, False, 10 ** 30, "1", [1], (1,), {}, Ratio(1), Ratio(0), object()]


def pairs_of(many):
    """Some pairs, so many."""
    return Pairs(1, [([1], [2])] * many)


class PartingsTest(Case):

    def test_is_parting(self):
        three = pairs_of(3)
        for value in ([[0, 1, 2]], [[2, 0], [1]], [[1], [2], [0]], ((2, 1, 0),), ([1], (0, 2)), [(0,), [1], (2,)]):
            self.assertIs(is_parting(three, value), True)
        for value in WRONG_PARTINGS:
            self.assertIs(is_parting(three, value), False)

    def test_of_no_pairs(self):
        none = pairs_of(0)
        self.assertEqual([is_parting(none, []), is_parting(none, ()), is_parting(none, [[]]), is_parting(none, [[0]])],
                         [True, True, False, False])
        self.assertEqual([told_parting(none, ()), told_parting(none, []), is_finer(none, [], ())], [[], [], True])

    def test_of_eight_pairs(self):
        eight = pairs_of(8)
        self.assertEqual(told_parting(eight, [[7, 3], (6, 0), [5, 4, 2], [1]]), [[0, 6], [1], [2, 4, 5], [3, 7]])
        self.assertIs(is_parting(eight, [[at] for at in range(8)]), True)
        self.assertIs(is_parting(eight, [[at] for at in range(7)]), False)
        self.assertIs(is_parting(eight, [[at] for at in range(9)]), False)

    def test_values_of_every_kind(self):
        none, one = pairs_of(0), pairs_of(1)
        for value in kinds():
            is_list = type(value) in (list, tuple)
            self.assertIs(is_parting(none, value), is_list and len(value) == 0)
            self.assertIs(is_parting(one, value), is_list and len(value) == 1 and type(value[0]) in (list, tuple)
                          and len(value[0]) == 1 and type(value[0][0]) is int and value[0][0] == 0)

    def test_told(self):
        three = pairs_of(3)
        for value in ([[1], [2, 0]], ((0, 2), [1]), ([2, 0], (1,)), [[0, 2], [1]]):
            self.assertEqual(told_parting(three, value), [[0, 2], [1]])
        self.assertEqual(told_parting(three, [(2,), (1,), (0,)]), [[0], [1], [2]])

    def test_partings(self):
        for many in range(7):
            self.assertEqual(partings(many), plain_partings(many))
        self.assertEqual([len(partings(many)) for many in range(7)], [1, 1, 2, 5, 15, 52, 203])
        self.assertEqual(partings(3), [[[0], [1], [2]], [[0], [1, 2]], [[0, 1], [2]], [[0, 1, 2]], [[0, 2], [1]]])
        six = partings(6)
        self.assertEqual(six, sorted(six))
        for parting in six:
            self.assertEqual(told_parting(pairs_of(6), parting), parting)
        self.assertEqual(len({repr(parting) for parting in six}), 203)

    def test_is_finer(self):
        four = pairs_of(4)
        for parting, other in itertools.product(partings(4), repeat=2):
            wanted = all(any(set(part) <= set(whole) for whole in other) for part in parting)
            self.assertIs(is_finer(four, parting, other), wanted)
            turned = [list(reversed(part)) for part in reversed(other)]
            self.assertIs(is_finer(four, tupled(parting), turned), wanted)
        for parting in partings(4):
            self.assertIs(is_finer(four, parting, parting), True)
            self.assertIs(is_finer(four, parting, [[0, 1, 2, 3]]), True)
            self.assertIs(is_finer(four, [[0], [1], [2], [3]], parting), True)
            self.assertIs(is_finer(four, [[0, 1, 2, 3]], parting), len(parting) == 1)


class ConductTest(Case):

    def test_arguments_and_answers(self):
        three = pairs_of(3)
        self.answers_alike(is_parting, pairs=three, value=[[2, 0], [1]])
        self.answers_alike(told_parting, pairs=three, parting=[[2, 0], [1]])
        self.answers_alike(told_parting, pairs=three, parting=[[0, 2], [1]])
        self.answers_alike(is_finer, pairs=three, parting=[[2], [1], [0]], other=[[2, 0], [1]])
        for many in range(7):
            self.answers_alike(partings, many=many)

    def test_lists_are_not_shared(self):
        for many in range(7):
            found = partings(many)
            lists = found + [part for parting in found for part in parting]
            self.assertEqual(len({id(part) for part in lists}), len(lists))

    def test_wrong_values(self):
        three = pairs_of(3)
        pairs, wrong = (InvalidPairs, WRONG_PAIRS), (InvalidParting, WRONG_PARTINGS)
        self.refuses(is_parting, {"pairs": three, "value": None}, {"pairs": pairs})
        self.refuses(told_parting, {"pairs": three, "parting": [[0, 1, 2]]}, {"pairs": pairs, "parting": wrong})
        self.refuses(is_finer, {"pairs": three, "parting": [[0, 1, 2]], "other": [[0, 1, 2]]},
                     {"pairs": pairs, "parting": wrong, "other": wrong})
        self.refuses(partings, {"many": 1}, {"many": (InvalidMany, WRONG_MANIES)})
        self.fails(InvalidParting, {"value": [[]]}, told_parting, pairs_of(0), [[]])


if __name__ == "__main__":
    unittest.main()
