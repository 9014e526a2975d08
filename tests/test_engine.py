"""Nothing shared [43], cores [44], both papers [45]."""

import itertools
import random
import unittest

from pairsfree.engine import bound, core, first_lot, is_bound, is_papers, papers
from pairsfree.errors import InvalidPairs, TooMany
from pairsfree.pairs import Pairs
from pairsfree.partings import partings
from pairsfree.ratios import Ratio
from tests.helper import (WRONG_LOTS, WRONG_PAIRS, WRONG_PARTINGS, Case, few_pairs, idle, is_told_room, kinds,
                          lot_rows, plain_common, plain_greatest, plain_greatest_lots, plain_least_worth,
                          plain_partings, plain_rank, plain_worth, random_room, rationed, sample_pairs, tupled,
                          wrong_rooms)

IDLE = idle(4)
RING = Pairs(3, [([1, 0, 0], [0, 1, 0]), ([0, 1, 0], [0, 0, 1]), ([1, 0, 0], [0, 0, 1])])
STAR = Pairs(4, [(IDLE[0], IDLE[1]), (IDLE[0], IDLE[2]), (IDLE[0], IDLE[3])])
EIGHT = Pairs(4, [(IDLE[0], IDLE[1]), (IDLE[2], IDLE[3])] * 4)
EIGHTS = [[0, 2, 4, 6], [1, 3, 5, 7]]


def long_pairs(chance, size, many, most):
    """Pairs with numbers up to the most above and below the stroke."""
    def row():
        return [Ratio(chance.randint(-most, most), chance.randint(most // 2, most)) for _ in range(size)]
    return Pairs(size, [(row(), row()) for _ in range(many)])


class CoreTest(Case):

    def check_core(self, pairs, room):
        """The room is told, nothing is shared behind it, and with some parting it has the least worth."""
        self.assertTrue(is_told_room(pairs.size, room))
        # What the rooms of all lots that are greatest behind it share, joined with it, is the room itself.
        self.assertEqual(len(plain_common(pairs, room)), len(room))
        self.assertEqual(plain_least_worth(pairs, room), plain_greatest(pairs))

    def test_cores(self):
        for pairs in few_pairs(51):
            self.check_core(pairs, core(pairs))

    def test_edges(self):
        for pairs in (Pairs(0, []), Pairs(5, []), Pairs(0, [([], [])] * 7), Pairs(2, [([0, 0], [0, 0])] * 3), RING):
            self.assertEqual(core(pairs), [])
        self.assertEqual(core(STAR), [[Ratio(1), Ratio(0), Ratio(0), Ratio(0)]])
        one = Pairs(3, [([1, 2, 0], [0, 1, 1])])
        self.check_core(one, core(one))
        self.assertEqual(len(core(one)), 1)

    def test_nothing_shared(self):
        seen = 0
        for pairs in few_pairs(52):
            if not plain_common(pairs):
                seen += 1
                self.assertEqual(core(pairs), [])
                self.assertEqual(plain_least_worth(pairs, []), plain_greatest(pairs))
        self.assertGreater(seen, 20)

    def test_the_room_lies_in_the_shared_one(self):
        for pairs in few_pairs(53):
            common = plain_common(pairs)
            self.assertEqual(plain_rank(common + core(pairs)), len(common))

    def test_digits(self):
        chance = random.Random(54)
        # The one of seven has just one core, with some nine hundred digits.
        for size, many, most in ((8, 1, 10 ** 60), (8, 4, 10 ** 20), (7, 4, 10 ** 6), (8, 5, 10 ** 20), (8, 7, 10 ** 6),
                                 (6, 3, 10 ** 20), (5, 3, 10 ** 6)):
            pairs = long_pairs(chance, size, many, most)
            found = papers(pairs)
            self.assertTrue(is_papers(pairs, found))
            room = core(pairs)
            self.check_core(pairs, room)
            for number in [number for row in room + found[1] for number in row]:
                self.assertLess(abs(number.top), 10 ** 2000)
                self.assertLess(number.bottom, 10 ** 2000)


class BoundTest(Case):

    def test_bounds(self):
        for pairs in few_pairs(55):
            found = bound(pairs)
            self.assertIs(type(found), tuple)
            room, parting = found
            self.assertTrue(is_told_room(pairs.size, room))
            self.assertIn(parting, plain_partings(pairs.many))
            self.assertEqual(plain_worth(pairs, room, parting), plain_greatest(pairs))
            self.assertIs(is_bound(pairs, found), True)

    def test_edges(self):
        self.assertEqual([bound(Pairs(0, [])), bound(Pairs(5, [])), bound(RING)],
                         [([], []), ([], []), ([], [[0, 1, 2]])])
        self.assertEqual(bound(STAR), (core(STAR), [[0], [1], [2]]))

    def test_is_bound(self):
        chance = random.Random(56)
        told = []
        for pairs in few_pairs(56, manies=(0, 1, 2, 3, 4)):
            rooms = [[], core(pairs), random_room(chance, pairs.size), idle(pairs.size)]
            some = chance.sample(partings(pairs.many), max(1, min(pairs.many, 4)))
            for room, parting in itertools.product(rooms, some):
                told.append(plain_worth(pairs, room, parting) == plain_greatest(pairs))
                turned = [list(reversed(part)) for part in reversed(parting)]
                for value in ((room, parting), (room, turned), (tupled(room), tupled(turned)),
                              (rationed(room), parting)):
                    self.assertIs(is_bound(pairs, value), told[-1])
        self.assertEqual(set(told), {True, False})

    def test_only_a_tuple_of_two(self):
        one, whole = [[1, 0, 0, 0]], [[0], [1], [2]]
        self.assertIs(is_bound(STAR, (one, whole)), True)
        for value in ([one, whole], (one,), (one, whole, []), ((one, whole),), (whole, one), {0: one, 1: whole}, one,
                      (one, [[0], [1], [2], [2]]), (one, [[0], [1]]), (one + one, whole), ([[2, 0, 0, 0]], whole),
                      ([[True, 0, 0, 0]], whole), ([[1, 0, 0, False]], whole), (one, [[False], [1], [2]]),
                      (one, [[0], [True], [2]]), (one, [[0], [Ratio(1)], [2]]), (None, whole), (one, None)):
            self.assertIs(is_bound(STAR, value), False)
        for room in wrong_rooms(4):
            self.assertIs(is_bound(STAR, (room, whole)), False)
        for parting in WRONG_PARTINGS:
            self.assertIs(is_bound(STAR, (one, parting)), False)

    def test_values_of_every_kind(self):
        for value in kinds() + [([], [[0]]), ([], ((0,),)), ([[1]], [[0]])]:
            self.assertIs(is_bound(Pairs(0, []), value), type(value) is tuple and value == ([], []))
            self.assertIs(is_bound(Pairs(1, [([1], [0])]), value), value in (([], [[0]]), ([], ((0,),))))

    def test_eight_pairs(self):
        self.assertEqual([is_bound(EIGHT, ([], EIGHTS)), is_bound(EIGHT, ([], [list(range(8))])),
                          is_bound(EIGHT, ([IDLE[0], IDLE[2]], [[at] for at in range(8)])),
                          is_bound(EIGHT, ([], [[at] for at in range(8)]))], [True, True, True, False])


class PapersTest(Case):

    def test_first_lot(self):
        for pairs in few_pairs(57) + sample_pairs(57, 1):
            self.assertEqual(first_lot(pairs), plain_greatest_lots(pairs)[0])
        self.assertEqual([first_lot(RING), first_lot(EIGHT), first_lot(Pairs(0, [])),
                          first_lot(Pairs(1, [([1], [1])]))], [[0], [0, 1], [], []])

    def test_papers(self):
        for pairs in few_pairs(58):
            found = papers(pairs)
            self.assertEqual((type(found), len(found)), (tuple, 3))
            lot, room, parting = found
            self.assertIn(lot, plain_greatest_lots(pairs))
            self.assertTrue(is_told_room(pairs.size, room))
            self.assertIn(parting, plain_partings(pairs.many))
            self.assertEqual(plain_worth(pairs, room, parting), len(lot))
            self.assertIs(is_papers(pairs, found), True)

    def test_is_papers(self):
        chance = random.Random(59)
        told = []
        for pairs in few_pairs(59, manies=(0, 1, 2, 3, 4)):
            lots = [list(lot) for many in range(3) for lot in itertools.combinations(range(pairs.many), many)]
            for lot, room in itertools.product(chance.sample(lots, min(len(lots), 4)), [[], core(pairs)]):
                for parting in chance.sample(partings(pairs.many), max(1, min(pairs.many, 3))):
                    free = plain_rank(lot_rows(pairs.told(), lot)) == 2 * len(lot)
                    told.append(free and plain_worth(pairs, room, parting) == len(lot))
                    for value in ((lot, room, parting), (tuple(lot), tupled(room), tupled(parting)),
                                  (lot, rationed(room), [part[::-1] for part in parting[::-1]])):
                        self.assertIs(is_papers(pairs, value), told[-1])
        self.assertEqual(set(told), {True, False})

    def test_only_a_tuple_of_three(self):
        lot, room, parting = [1], [[1, 0, 0, 0]], [[0], [1], [2]]
        self.assertIs(is_papers(STAR, (lot, room, parting)), True)
        for value in ([lot, room, parting], (lot, room), (room, parting), (lot, room, parting, []),
                      (room, lot, parting), (lot, (room, parting)), ((lot, room, parting),), {},
                      ([0, 1], room, parting), ([], room, parting),
                      ([], [], parting), ([True], room, parting), (lot, [[True, 0, 0, 0]], parting),
                      (lot, room, [[False], [1], [2]])):
            self.assertIs(is_papers(STAR, value), False)
        for value in WRONG_LOTS:
            self.assertIs(is_papers(STAR, (value, room, parting)), False)
        for value in wrong_rooms(4):
            self.assertIs(is_papers(STAR, (lot, value, parting)), False)
        for value in WRONG_PARTINGS:
            self.assertIs(is_papers(STAR, (lot, room, value)), False)

    def test_values_of_every_kind(self):
        for value in kinds() + [([], [], []), ((), (), ()), ([], [], [[]]), ([], [], [[0]]), ([0], [], [[0]])]:
            is_tuple = type(value) is tuple
            self.assertIs(is_papers(Pairs(0, []), value), is_tuple and value in (([], [], []), ((), (), ())))
            self.assertIs(is_papers(Pairs(1, [([1], [0])]), value), is_tuple and value == ([], [], [[0]]))

    def test_eight_pairs(self):
        self.assertEqual([is_papers(EIGHT, ([2, 5], [], EIGHTS)), is_papers(EIGHT, ((0, 2), [], EIGHTS)),
                          is_papers(EIGHT, ([2], [], EIGHTS))], [True, False, False])


class ConductTest(Case):

    def test_arguments_and_answers(self):
        for pairs in (RING, STAR, Pairs(4, STAR.told() * 2), Pairs(0, [])):
            for call in (core, bound, first_lot, papers):
                self.answers_alike(call, pairs=pairs)
            self.answers_alike(is_bound, pairs=pairs, value=([[1] + [0] * 3], [[0], (1, 2)]))
            self.answers_alike(is_papers, pairs=pairs, value=([0], [[1] + [0] * 3], [[0], (2, 1)]))
            self.answers_alike(is_papers, pairs=pairs, value=papers(pairs))

    def test_of_the_same_worth(self):
        pairs = Pairs(4, rationed(STAR.told() * 2))
        other = Pairs(4, tupled([(IDLE[0], IDLE[1]), (IDLE[0], IDLE[2]), (IDLE[0], IDLE[3])] * 2))
        self.assertEqual(papers(pairs), papers(other))
        self.assertEqual(core(pairs), core(other))

    def test_lists_are_not_shared(self):
        for pairs in few_pairs(60, sizes=(2, 4)):
            lot, room, parting = papers(pairs)
            lists = [lot, room, parting] + room + parting
            self.assertEqual(len({id(part) for part in lists}), len(lists))

    def test_wrong_values(self):
        pairs = (InvalidPairs, WRONG_PAIRS)
        for call in (core, bound, first_lot, papers):
            self.refuses(call, {"pairs": RING}, {"pairs": pairs})
        for call in (is_bound, is_papers):
            self.refuses(call, {"pairs": RING, "value": None}, {"pairs": pairs})

    def test_too_many(self):
        for pairs in (EIGHT, Pairs(0, [([], [])] * 8)):
            for call in (core, bound, papers):
                self.fails(TooMany, {"what": "pairs", "limit": 7}, call, pairs)
        self.assertEqual(first_lot(EIGHT), [0, 1])


if __name__ == "__main__":
    unittest.main()
