"""Lots [6]: free ones [22], greatest ones [23], handed over [24]."""

import random
import unittest

from pairsfree.errors import InvalidLot, InvalidMany, InvalidPairs, NotFree
from pairsfree.lots import free_lots, greatest, greatest_lots, handed, is_free, is_lot, lot_rank
from pairsfree.pairs import Pairs
from pairsfree.ratios import Ratio
from pairsfree.steps import rank
from tests.helper import WRONG_LOTS, WRONG_PAIRS, Case, idle, kinds, plain_lots, plain_steps, sample_pairs

WRONG_MANIES = [9, -1, None, True, False, 10 ** 30, "1", [1], (1,), {}, Ratio(1), Ratio(0), object()]

IDLE = idle(8)
# The first and the second are free together, with the third none is; the fourth is not free by itself.
SOME = Pairs(4, [(IDLE[0][:4], IDLE[1][:4]), (IDLE[2][:4], IDLE[3][:4]), (IDLE[0][:4], IDLE[2][:4]),
                 (IDLE[3][:4], [0, 0, 0, 2])])


class LotsTest(Case):

    def test_is_lot(self):
        for lot in ([], [0], [3], [0, 2], [0, 1, 2, 3]):
            self.assertIs(is_lot(SOME, lot), True)
            self.assertIs(is_lot(SOME, tuple(lot)), True)
        for value in ([4], [1, 0], [0, 0], [0, 1, 1], [0, 2, 1], [0, 4], [-1], [True], [0, True], [Ratio(1)]):
            self.assertIs(is_lot(SOME, value), False)
            self.assertIs(is_lot(SOME, tuple(value)), False)

    def test_is_lot_of_every_kind(self):
        none, one = Pairs(2, []), Pairs(1, [([0], [0])])
        for value in kinds():
            empty = type(value) in (list, tuple) and len(value) == 0
            nought = type(value) in (list, tuple) and len(value) == 1 and type(value[0]) is int and value[0] == 0
            self.assertIs(is_lot(none, value), empty)
            self.assertIs(is_lot(one, value), empty or nought)

    def test_lot_rank(self):
        self.assertEqual([lot_rank(SOME, lot) for lot in ([], [0], [3], [0, 1], [0, 2], [0, 3], [0, 1, 2, 3])],
                         [0, 2, 1, 4, 3, 3, 4])
        self.assertIs(type(lot_rank(SOME, [0])), int)
        for pairs in sample_pairs(21, 1):
            told = pairs.told()
            for lot in ([], list(range(pairs.many)), list(range(0, pairs.many, 2))):
                self.assertEqual(lot_rank(pairs, lot), len(plain_steps([row for place in lot for row in told[place]])))

    def test_is_free(self):
        self.assertEqual([is_free(SOME, lot) for lot in ([], (0,), [3], [0, 1], [0, 2], [1, 2], [2, 3])],
                         [True, True, False, True, False, False, False])
        nought = Pairs(3, [([0, 0, 0], [1, 0, 0]), ([1, 1, 1], [2, 2, 2]), ([0, 1, 0], [0, 0, 1]),
                           ([0, 1, 0], [0, 0, 1])])
        self.assertEqual([is_free(nought, lot) for lot in ([0], [1], [2], [2, 3])], [False, False, True, False])
        self.assertIs(is_free(Pairs(0, [([], [])]), [0]), False)

    def test_free_lots(self):
        for pairs in sample_pairs(22):
            for many in range(9):
                self.assertEqual(free_lots(pairs, many), plain_lots(pairs, many) if many <= pairs.many else [])

    def test_free_lots_of_few(self):
        self.assertEqual([free_lots(SOME, many) for many in range(9)], [[[]], [[0], [1], [2]], [[0, 1]]] + [[]] * 6)
        self.assertEqual([free_lots(Pairs(0, []), many) for many in (0, 1, 8)], [[[]], [], []])

    def test_greatest(self):
        for pairs in sample_pairs(23):
            numbers = [many for many in range(pairs.many + 1) if plain_lots(pairs, many)]
            self.assertEqual(greatest(pairs), max(numbers))
            self.assertIs(type(greatest(pairs)), int)
            self.assertEqual(greatest_lots(pairs), plain_lots(pairs, max(numbers)))
            whole = rank(pairs.size, pairs.lot_rows(list(range(pairs.many))))
            self.assertLessEqual(greatest(pairs), whole // 2)

    def test_eight_pairs(self):
        four = Pairs(8, [(IDLE[at], IDLE[at + 1]) for at in (0, 2, 4, 6)] * 2)
        self.assertEqual(greatest(four), 4)
        self.assertEqual(len(greatest_lots(four)), 16)
        self.assertEqual([greatest_lots(four)[0], greatest_lots(four)[-1]], [[0, 1, 2, 3], [4, 5, 6, 7]])
        self.assertEqual([greatest(Pairs(8, [])), greatest_lots(Pairs(8, []))], [0, [[]]])
        noughts = Pairs(8, [([0] * 8, [0] * 8)] * 8)
        self.assertEqual([greatest(noughts), greatest_lots(noughts), free_lots(noughts, 1)], [0, [[]], []])

    def test_half_of_the_rank_is_not_always_reached(self):
        u, v, w = IDLE[0], IDLE[1], IDLE[2]
        self.assertEqual(greatest(Pairs(8, [(u, v), (v, w), (u, w)])), 1)
        self.assertEqual(greatest(Pairs(8, [(u, v), (u, w), (u, IDLE[3])])), 1)

    def test_lots_within(self):
        for pairs in sample_pairs(24, 1):
            for many in range(1, 5):
                for lot in free_lots(pairs, many):
                    for place in lot:
                        self.assertTrue(is_free(pairs, [other for other in lot if other != place]))
                    self.assertLessEqual(2 * many, pairs.size)

    def test_sequence_within_a_pair(self):
        for pairs in sample_pairs(25, 1):
            turned = Pairs(pairs.size, [(second, first) for first, second in pairs.told()])
            self.assertEqual(greatest_lots(turned), greatest_lots(pairs))

    def test_handed(self):
        self.assertEqual([handed(SOME, [2], [0, 1]), handed(SOME, [], [0, 1]), handed(SOME, [0], [0, 1]),
                          handed(SOME, [0, 1], [2]), handed(SOME, (1,), (0,)), handed(SOME, [], [])],
                         [[], [0, 1], [1], [], [0], []])
        chance = random.Random(26)
        for pairs in sample_pairs(26, 1):
            lots = [lot for many in range(5) for lot in free_lots(pairs, many)]
            for _ in range(6):
                lot, other = chance.choice(lots), chance.choice(lots)
                self.assertEqual(handed(pairs, lot, other), [
                    place for place in other if place not in lot
                    and sorted(lot + [place]) in plain_lots(pairs, len(lot) + 1)])

    def test_not_free(self):
        for lot, other in (([3], []), ([], [3]), ([0, 2], [0]), ([0], [0, 2]), ([3], [3]), ((0, 3), (1, 2))):
            self.fails(NotFree, {}, handed, SOME, lot, other)
        self.fails(InvalidLot, {"value": [9]}, handed, SOME, [3], [9])
        self.fails(InvalidLot, {"value": [9]}, handed, SOME, [9], [3])


class ConductTest(Case):

    def test_arguments_and_answers(self):
        for pairs in [SOME] + sample_pairs(27, 1):
            lot = list(range(pairs.many))
            self.answers_alike(is_lot, pairs=pairs, value=lot)
            self.answers_alike(lot_rank, pairs=pairs, lot=lot)
            self.answers_alike(is_free, pairs=pairs, lot=lot)
            for many in (0, 1, 2):
                self.answers_alike(free_lots, pairs=pairs, many=many)
            self.answers_alike(greatest, pairs=pairs)
            self.answers_alike(greatest_lots, pairs=pairs)
            self.answers_alike(handed, pairs=pairs, lot=[], other=greatest_lots(pairs)[0])

    def test_lists_are_not_shared(self):
        for found in (free_lots(SOME, 1), greatest_lots(Pairs(8, [(IDLE[0], IDLE[1])] * 8)), free_lots(SOME, 0)):
            self.assertEqual(len({id(lot) for lot in found}), len(found))
            self.assertEqual({type(lot) for lot in found}, {list})
        given = [0, 1]
        self.assertIsNot(handed(SOME, [], given), given)

    def test_wrong_values(self):
        pairs, lots, manies = (InvalidPairs, WRONG_PAIRS), (InvalidLot, WRONG_LOTS), (InvalidMany, WRONG_MANIES)
        three = Pairs(4, SOME.told()[:3])
        for call in (lot_rank, is_free):
            self.refuses(call, {"pairs": three, "lot": [0]}, {"pairs": pairs, "lot": lots})
        self.refuses(handed, {"pairs": three, "lot": [0], "other": [1]}, {"pairs": pairs, "lot": lots, "other": lots})
        self.refuses(free_lots, {"pairs": three, "many": 1}, {"pairs": pairs, "many": manies})
        for call in (greatest, greatest_lots):
            self.refuses(call, {"pairs": three}, {"pairs": pairs})
        self.refuses(is_lot, {"pairs": three, "value": None}, {"pairs": pairs})


if __name__ == "__main__":
    unittest.main()
