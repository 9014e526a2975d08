"""Bounds [7]: what they are worth [31], parts joined [32], greater rooms [33], the least worth for a room [34]."""

import itertools
import random
import unittest

from pairsfree.bounds import best_parting, is_tight, least_worth, part_ranks, worth
from pairsfree.errors import InvalidPairs, InvalidParting, InvalidRoom, TooMany
from pairsfree.pairs import Pairs
from pairsfree.ratios import Ratio
from pairsfree.steps import steps
from tests.helper import (WRONG_PAIRS, WRONG_PARTINGS, Case, few_pairs, idle, lot_rows, plain_greatest,
                          plain_least_worth, plain_partings, plain_rank, plain_worth, random_room, random_rows,
                          rationed, sample_pairs, tupled, wrong_rooms)

IDLE = idle(4)
RING = Pairs(3, [([1, 0, 0], [0, 1, 0]), ([0, 1, 0], [0, 0, 1]), ([1, 0, 0], [0, 0, 1])])
STAR = Pairs(4, [(IDLE[0], IDLE[1]), (IDLE[0], IDLE[2]), (IDLE[0], IDLE[3])])
EIGHT = Pairs(4, [(IDLE[0], IDLE[1]), (IDLE[2], IDLE[3])] * 4)
NOUGHTS = Pairs(2, [([0, 0], [0, 0])] * 3)


def some_rooms(chance, pairs):
    """Nothing, the room of all rows, that of the rows of a pair, and some other one."""
    own = [steps(pairs.size, list(pairs.pair(0)))] if pairs.many else []
    return [[], steps(pairs.size, idle(pairs.size)), random_room(chance, pairs.size)] + own


def some_partings(chance, many):
    """The finest parting, the one with one part, and some others, each in any sequence."""
    found = [[[place] for place in range(many)], [list(range(many))] if many else []]
    for _ in range(3):
        numbers = [chance.randint(0, 2) for _ in range(many)]
        parts = [[place for place in range(many) if numbers[place] == number] for number in range(3)]
        found.append([chance.sample(part, len(part)) for part in chance.sample(parts, 3) if part])
    return found


def samples(seed):
    """Pairs with rooms and partings; the same at each call."""
    chance = random.Random(seed)
    return [(pairs, room, parting) for pairs in few_pairs(seed) for room in some_rooms(chance, pairs)
            for parting in chance.sample(some_partings(chance, pairs.many), 2)]


class WorthTest(Case):

    def test_part_ranks(self):
        for pairs, room, parting in samples(1):
            told = pairs.told()
            parts = sorted(sorted(part) for part in parting)
            wanted = [plain_rank(room + lot_rows(told, part)) - len(room) for part in parts]
            self.assertEqual(part_ranks(pairs, room, parting), wanted)
            self.assertEqual(worth(pairs, room, parting), len(room) + sum(number // 2 for number in wanted))
            self.assertEqual({type(number) for number in part_ranks(pairs, room, parting)} - {int}, set())
            self.assertIs(type(worth(pairs, room, parting)), int)

    def test_as_the_told_parting(self):
        pairs = Pairs(4, [(IDLE[0], IDLE[1]), (IDLE[2], IDLE[2]), (IDLE[2], IDLE[3]), ([0] * 4, [0] * 4)])
        self.assertEqual(part_ranks(pairs, [], [[3], [2, 1], [0]]), [2, 2, 0])
        self.assertEqual(part_ranks(pairs, [], [[3, 0], [1], [2]]), [2, 1, 2])
        self.assertEqual(part_ranks(pairs, [], [[3, 2, 1, 0]]), [4])
        self.assertEqual(part_ranks(pairs, [[0, 0, 1, 0]], [[3], [2], [1], [0]]), [2, 0, 1, 0])
        self.assertEqual(worth(pairs, [[0, 0, 1, 0]], [[3], [2], [1], [0]]), 2)

    def test_edges(self):
        nothing = Pairs(0, [])
        self.assertEqual([part_ranks(nothing, [], []), worth(nothing, [], []), least_worth(nothing, []),
                          best_parting(nothing, [])], [[], 0, 0, []])
        self.assertEqual([part_ranks(Pairs(3, []), [[1, 0, 0]], ()), worth(Pairs(3, []), [[1, 0, 0]], ()),
                          least_worth(Pairs(3, []), [[1, 0, 0]]), best_parting(Pairs(3, []), idle(3))], [[], 1, 1, []])
        empty = Pairs(0, [([], [])] * 2)
        self.assertEqual([part_ranks(empty, [], [[1], [0]]), worth(empty, [], [[1, 0]]), least_worth(empty, [])],
                         [[0, 0], 0, 0])
        self.assertEqual([part_ranks(NOUGHTS, [], [[1], [0, 2]]), worth(NOUGHTS, [], [[0, 1, 2]]),
                          worth(NOUGHTS, idle(2), [[0, 1, 2]]), least_worth(NOUGHTS, [])], [[0, 0], 0, 2, 0])
        alike = Pairs(4, [(IDLE[0], IDLE[1])] * 3)
        self.assertEqual([worth(alike, [], [[0], [1], [2]]), worth(alike, [], [[0, 2], [1]]), least_worth(alike, [])],
                         [3, 2, 1])

    def test_eight_pairs(self):
        self.assertEqual(part_ranks(EIGHT, [], [[at] for at in range(8)]), [2] * 8)
        self.assertEqual(worth(EIGHT, [[1, 0, 0, 0]], [[7, 5, 3, 1], [6, 4, 2, 0]]), 2)
        self.assertEqual(part_ranks(EIGHT, idle(4), [list(range(8))]), [0])
        self.assertEqual([is_tight(EIGHT, [], [list(range(8))]), is_tight(EIGHT, idle(4), [list(range(8))])],
                         [True, False])

    def test_never_less(self):
        for pairs, room, parting in samples(2):
            self.assertGreaterEqual(worth(pairs, room, parting), plain_greatest(pairs))

    def test_is_tight(self):
        told = []
        for pairs, room, parting in samples(3):
            told.append(plain_worth(pairs, room, parting) == plain_greatest(pairs))
            self.assertIs(is_tight(pairs, room, parting), told[-1])
        self.assertEqual(set(told), {True, False})
        self.assertEqual([is_tight(STAR, [], [[0, 1, 2]]), is_tight(STAR, [IDLE[0]], [[0], [1], [2]]),
                          is_tight(STAR, [IDLE[0]], [[0, 1, 2]]), is_tight(RING, [], ((2, 0, 1),))],
                         [False, True, False, True])

    def test_parts_joined(self):
        for pairs, room, parting in samples(4):
            parts = sorted(sorted(part) for part in parting)
            for one, other in itertools.combinations(parts, 2):
                rest = [part for part in parts if part not in (one, other)]
                ranks = [part_ranks(pairs, room, parts)[parts.index(part)] for part in (one, other)]
                joined = sorted(rest + [one + other], key=min)
                both = part_ranks(pairs, room, joined)[joined.index(one + other)]
                more = worth(pairs, room, joined) - worth(pairs, room, parts)
                self.assertLessEqual(both, sum(ranks))
                self.assertLessEqual(more, 1 if ranks[0] * ranks[1] % 2 else 0)

    def test_greater_rooms(self):
        chance = random.Random(5)
        for pairs, room, parting in samples(5):
            for row in random_rows(chance, pairs.size, 2):
                wider = steps(pairs.size, room + [row])
                if len(wider) > len(room):
                    ranks, fewer = part_ranks(pairs, room, parting), part_ranks(pairs, wider, parting)
                    falls = [number - less for number, less in zip(ranks, fewer)]
                    self.assertLessEqual(set(falls), {0, 1})
                    more = worth(pairs, wider, parting) - worth(pairs, room, parting)
                    to_odd = [number for number, fall in zip(ranks, falls) if fall and number % 2 == 0]
                    self.assertLessEqual(more, 1)
                    self.assertEqual(more, 1 - len(to_odd))
                    self.assertTrue(more >= 0 or len(to_odd) >= 2)


class LeastTest(Case):

    def test_least_worth(self):
        chance = random.Random(6)
        for pairs in few_pairs(6):
            for room in chance.sample(some_rooms(chance, pairs), 2):
                wanted = plain_least_worth(pairs, room)
                self.assertEqual(least_worth(pairs, room), wanted)
                self.assertIs(type(least_worth(pairs, room)), int)
                found = best_parting(pairs, room)
                self.assertIn(found, plain_partings(pairs.many))
                self.assertEqual(plain_worth(pairs, room, found), wanted)

    def test_nothing_and_one_part(self):
        for pairs in sample_pairs(7, 1):
            half = plain_rank([row for pair in pairs.told() for row in pair]) // 2
            self.assertEqual(worth(pairs, [], [list(range(pairs.many))] if pairs.many else []), half)
            if pairs.many < 8:
                self.assertLessEqual(least_worth(pairs, []), half)

    def test_another_room_may_be_wanted(self):
        self.assertEqual([least_worth(STAR, []), least_worth(STAR, [IDLE[0]]), least_worth(STAR, IDLE),
                          best_parting(STAR, [IDLE[0]])], [2, 1, 4, [[0], [1], [2]]])
        self.assertEqual([least_worth(RING, []), best_parting(RING, [])], [1, [[0, 1, 2]]])

    def test_seven_pairs(self):
        rows = idle(8)
        seven = Pairs(8, [(rows[at], rows[at + 1]) for at in range(7)])
        self.assertEqual(least_worth(seven, []), 4)
        self.assertEqual(plain_worth(seven, rows[1:8:2], best_parting(seven, rows[1:8:2])), 4)
        two = Pairs(8, [(rows[0], rows[1]), (rows[1], rows[2]), (rows[0], rows[2]), (rows[3], rows[4]),
                        (rows[4], rows[5]), (rows[3], rows[5]), ([0] * 8, rows[6])])
        self.assertEqual(least_worth(two, []), 2)
        self.assertEqual([part for part in best_parting(two, []) if len(part) > 1][:2], [[0, 1, 2], [3, 4, 5]])


class ConductTest(Case):

    def test_arguments_and_answers(self):
        room = [[1, 0, 0, Ratio(1, 2)], (0, 1, 0, 0)]
        for call in (part_ranks, worth, is_tight):
            self.answers_alike(call, pairs=STAR, room=room, parting=[[2, 0], (1,)])
            self.answers_alike(call, pairs=RING, room=[], parting=[[0, 1, 2]])
            self.answers_alike(call, pairs=EIGHT, room=IDLE, parting=[[at] for at in range(8)])
        for call in (least_worth, best_parting):
            self.answers_alike(call, pairs=STAR, room=room)
            self.answers_alike(call, pairs=RING, room=[])
            self.answers_alike(call, pairs=Pairs(0, []), room=[])

    def test_tuples_and_integers(self):
        for pairs, room, parting in samples(8):
            for call in (part_ranks, worth, is_tight):
                wanted = call(pairs, room, parting)
                for told in (tupled, rationed):
                    self.assertEqual(call(pairs, told(room), tupled(parting)), wanted)
            self.assertEqual(best_parting(pairs, tupled(room)), best_parting(pairs, room))
        self.assertEqual(worth(STAR, [[1, 0, 0, 0]], [[0, 1, 2]]),
                         worth(STAR, ((Ratio(1), 0, Ratio(0), 0),), ((2, 1, 0),)))

    def test_lists_are_not_shared(self):
        found = best_parting(STAR, [IDLE[0]])
        self.assertEqual(len({id(part) for part in [found] + found}), 4)

    def test_wrong_values(self):
        pairs, rooms = (InvalidPairs, WRONG_PAIRS), (InvalidRoom, wrong_rooms(4))
        partings = (InvalidParting, WRONG_PARTINGS)
        for call in (part_ranks, worth, is_tight):
            self.refuses(call, {"pairs": STAR, "room": [], "parting": [[0, 1, 2]]},
                         {"pairs": pairs, "room": rooms, "parting": partings})
        for call in (least_worth, best_parting):
            self.refuses(call, {"pairs": STAR, "room": []}, {"pairs": pairs, "room": rooms})
        self.fails(InvalidRoom, {"value": [[1, 0, 0, 0]]}, worth, RING, [[1, 0, 0, 0]], [[0, 1, 2]])
        self.fails(InvalidRoom, {"value": [[]]}, least_worth, Pairs(0, []), [[]])
        self.fails(InvalidParting, {"value": [[]]}, worth, Pairs(0, []), [], [[]])

    def test_too_many(self):
        for call in (least_worth, best_parting):
            for room in ([], IDLE, [[1, 0, 0, 0]]):
                self.fails(TooMany, {"what": "pairs", "limit": 7}, call, EIGHT, room)
            for room in wrong_rooms(4):
                self.fails(InvalidRoom, {"value": room}, call, EIGHT, room)


if __name__ == "__main__":
    unittest.main()
