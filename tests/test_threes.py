"""Threes [81], rings [82], and what is without a ring [83]."""

import itertools
import random
import unittest

from pairsfree.errors import InvalidSize, InvalidThrees
from pairsfree.lots import greatest, is_free
from pairsfree.pairs import Pairs
from pairsfree.ratios import Ratio
from pairsfree.threes import has_ring, ringless, ringless_number, spans, three_pairs
from tests.helper import Case, rationed, wrong_sizes

WRONG_THREES = [None, True, 0, "", "012", {}, {(0, 1, 2): 1}, {(0, 1, 2)}, object(), Ratio(1), range(3),
                [(0, 1, 2)] * 9, tuple([(0, 1, 2)] * 9), [[0, 1, 2]], [(0, 1, 2), [0, 1, 2]], [(0, 2, 1)], [(1, 0, 2)],
                [(2, 1, 0)], [(0, 0, 1)], [(0, 1, 1)], [(1, 1, 1)], [(0, 1, 4)], [(4, 5, 6)], [(-1, 0, 1)], [(0, 1)],
                [(0, 1, 2, 3)], [()], [None], [0], ["012"], [(False, 1, 2)], [(0, True, 2)], [(0, 1, Ratio(2))],
                [(0, 1, "2")], [(0, 1, None)], [(0, 1, 2), (0, 1, 2), (1, 1, 2)], [((0, 1, 2),)], (0, 1, 2),
                iter([(0, 1, 2)]), [(0, 1, 10 ** 30)]]


def sample_threes(seed, times=3):
    """Threes of all sizes and numbers, alike ones among them; the same at each call."""
    chance = random.Random(seed)
    found = [(size, []) for size in range(9)] + [(8, [(0, 1, 2)] * 8), (3, [(0, 1, 2)]), (7, [(0, 1, 2), (2, 3, 4)])]
    for size, many in itertools.product(range(3, 9), (1, 2, 3, 4, 5, 8)):
        for _ in range(times):
            found.append((size, [tuple(sorted(chance.sample(range(size), 3))) for _ in range(many)]))
    return found


def put_on(size, threes):
    """The pieces behind the threes, one put on behind another; None if one of them has places that hang together."""
    pieces = [{place} for place in range(size)]
    for three in threes:
        met = [piece for piece in pieces if piece & set(three)]
        if len(met) < 3:
            return None
        pieces = [piece for piece in pieces if piece not in met] + [set().union(*met)]
    return pieces


def plain_lots(size, threes):
    """All greatest ringless lots, by going through all lots."""
    found = [[list(lot) for lot in itertools.combinations(range(len(threes)), many)
              if put_on(size, [threes[at] for at in lot]) is not None] for many in range(4)]
    return [lots for lots in found if lots][-1]


class ThreesTest(Case):

    def test_pairs(self):
        for size, threes in sample_threes(131):
            wanted = []
            for i, j, k in threes:
                one, other = [0] * size, [0] * size
                one[i], one[j], other[i], other[k] = 1, -1, 1, -1
                wanted.append((one, other))
            found = three_pairs(size, threes)
            self.assertIs(type(found), Pairs)
            self.assertEqual((found.size, found.told()), (size, rationed(wanted)))

    def test_rings(self):
        chance = random.Random(132)
        found = set()
        for size, threes in sample_threes(132):
            ring = put_on(size, threes) is None
            self.assertIs(has_ring(size, threes), ring)
            self.assertIs(is_free(three_pairs(size, threes), list(range(len(threes)))), not ring)
            mixed = chance.sample(threes, len(threes))
            self.assertIs(put_on(size, mixed) is None, ring)
            self.assertIs(has_ring(size, tuple(mixed)), ring)
            if not ring:
                self.assertEqual(len(put_on(size, threes)), size - 2 * len(threes))
                self.assertLessEqual(2 * len(threes), max(size - 1, 0))
            found.add(ring)
        self.assertEqual(found, {True, False})

    def test_ringless(self):
        for size, threes in sample_threes(133):
            lots = plain_lots(size, threes)
            self.assertIn(ringless(size, threes), lots)
            self.assertIs(type(ringless(size, threes)), list)
            self.assertEqual(ringless_number(size, threes), len(lots[0]))
            self.assertIs(type(ringless_number(size, threes)), int)
            self.assertEqual(greatest(three_pairs(size, threes)), len(lots[0]))

    def test_spans(self):
        found = []
        for size, threes in sample_threes(134, 6):
            lots = [lot for many in range(4) for lot in itertools.combinations(threes, many)]
            pieces = [put_on(size, lot) for lot in lots]
            wanted = any(parts is not None and len(parts) < 2 for parts in pieces)
            self.assertIs(spans(size, threes), wanted)
            found.append((size % 2, wanted))
        self.assertEqual(set(found), {(0, False), (0, True), (1, False), (1, True)})
        self.assertEqual([spans(size, []) for size in range(9)], [True, True] + [False] * 7)
        self.assertEqual([spans(7, [(0, 1, 2), (2, 3, 4), (4, 5, 6)]), spans(8, [(0, 1, 2), (2, 3, 4), (4, 5, 6)])],
                         [True, False])

    def test_edges(self):
        for size in range(9):
            self.assertEqual([three_pairs(size, []), has_ring(size, []), ringless(size, []), ringless_number(size, [])],
                             [Pairs(size, []), False, [], 0])
        self.assertEqual([has_ring(3, [(0, 1, 2)]), has_ring(3, [(0, 1, 2)] * 2), ringless_number(3, [(0, 1, 2)] * 8)],
                         [False, True, 1])
        self.assertEqual(ringless_number(8, [(0, 1, 2), (2, 3, 4), (4, 5, 6), (5, 6, 7), (0, 3, 7)]), 3)


class ConductTest(Case):

    def test_arguments_and_answers(self):
        for size, threes in ((3, [(0, 1, 2)]), (8, [(0, 1, 2)] * 8), (0, []), (5, [(0, 1, 2), (2, 3, 4), (1, 2, 3)])):
            for call in (three_pairs, has_ring, ringless, ringless_number, spans):
                self.answers_alike(call, size=size, threes=threes)
                self.answers_alike(call, size=size, threes=tuple(threes))
                self.assertEqual(call(size, tuple(threes)), call(size, threes))

    def test_wrong_values(self):
        for call in (three_pairs, has_ring, ringless, ringless_number, spans):
            self.refuses(call, {"size": 4, "threes": [(0, 1, 3)]},
                         {"size": (InvalidSize, wrong_sizes(8)), "threes": (InvalidThrees, WRONG_THREES)})
            for size in (0, 1, 2):
                self.fails(InvalidThrees, {"value": [(0, 1, 2)]}, call, size, [(0, 1, 2)])


if __name__ == "__main__":
    unittest.main()
