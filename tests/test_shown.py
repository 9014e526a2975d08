"""Papers [55] of what is in all, is spared, is in some, is in none, and what they show [56]."""

import itertools
import random
import unittest

from pairsfree.engine import core
from pairsfree.errors import InvalidPairs, InvalidPlace, TooMany
from pairsfree.pairs import Pairs
from pairsfree.ratios import Ratio
from pairsfree.shown import (all_paper, is_all_paper, is_none_paper, is_some_paper, is_spared_paper, none_paper,
                             some_paper, spared_paper)
from tests.helper import (WRONG_LOTS, WRONG_PAIRS, WRONG_PARTINGS, Case, few_pairs, fraction_rows, idle, is_told_room,
                          kinds, lot_rows, plain_behind, plain_greatest_lots, plain_partings, plain_rank, plain_steps,
                          plain_worth, rationed, tupled, wrong_places, wrong_rooms)

IDLE = idle(4)
FOUR = Pairs(4, [(IDLE[0], IDLE[1]), (IDLE[2], IDLE[3]), (IDLE[0], IDLE[2])])
STAR = Pairs(4, [(IDLE[0], IDLE[1]), (IDLE[0], IDLE[2]), (IDLE[0], IDLE[3])])
TWO = Pairs(2, [((1, 0), (0, 1)), ((1, 1), (0, 2)), ((1, 0), (2, 0))])
EIGHT = Pairs(4, [(IDLE[0], IDLE[1]), (IDLE[2], IDLE[3])] * 3 + [(IDLE[0], IDLE[2]), (IDLE[0], IDLE[0])])
WHOLE = [list(range(8))]

PAPERS = {"all": all_paper, "spared": spared_paper, "some": some_paper, "none": none_paper}
JUDGES = {"all": is_all_paper, "spared": is_spared_paper, "some": is_some_paper, "none": is_none_paper}


def what_is_so(pairs, place):
    """What papers there are, by going through all lots."""
    lots = plain_greatest_lots(pairs)
    having = [place in lot for lot in lots]
    return {"all": all(having), "spared": not all(having), "some": any(having), "none": not any(having)}


def others(pairs, place):
    """The pairs without that at the place."""
    return Pairs(pairs.size, pairs.told()[:place] + pairs.told()[place + 1:])


def is_good_bound(pairs, room, parting):
    """Whether the room is in steps, and each position just once in a part that is not empty."""
    return all(len(row) == pairs.size for row in room) and plain_steps(room) == fraction_rows(room) and (
        sorted(place for part in parting for place in part) == list(range(pairs.many)) and all(map(len, parting)))


def plain_judge(kind, pairs, place, value):
    """Whether a value that is a tuple of a list of places, a list of rows and a list of parts is a paper."""
    lot, room, parting = value
    pair = list(pairs.pair(place))
    if plain_rank(lot_rows(pairs.told(), lot)) < 2 * len(lot) or (kind == "none" and plain_rank(pair) < 2):
        return False
    bounded = {"all": others(pairs, place), "none": plain_behind(pairs, pair)}.get(kind, pairs)
    if not is_good_bound(bounded, room, parting):
        return False
    number = plain_worth(bounded, room, parting)
    if kind == "all":
        return number < len(lot)
    if kind == "none":
        return number < len(lot) - 1
    return number == len(lot) and (place in lot) == (kind == "some")


class PapersTest(Case):

    def test_each_that_is_so_has_a_paper(self):
        seen = []
        for pairs in few_pairs(81, manies=(1, 2, 3, 4, 6, 7)):
            for place in {0, pairs.many // 2, pairs.many - 1}:
                so = what_is_so(pairs, place)
                for kind, paper in PAPERS.items():
                    found = paper(pairs, place)
                    seen.append((kind, found is not None, bool(found)))
                    self.assertIs(found is not None, so[kind])
                    for other, judge in JUDGES.items():
                        contrary = {kind, other} in ({"all", "spared"}, {"some", "none"})
                        told = judge(pairs, place, found)
                        self.assertIs(type(told), bool)
                        self.assertFalse(told and (contrary or found is None))
                        self.assertTrue(told or kind != other or found is None)
                    if found:
                        self.check_paper(kind, pairs, place, found)
        self.assertEqual(len(set(seen)), 9)

    def check_paper(self, kind, pairs, place, found):
        """The paper is told, and it is one by ranks that are reckoned anew."""
        self.assertEqual((type(found), len(found)), (tuple, 3))
        lot, room, parting = found
        size = pairs.size - 2 if kind == "none" else pairs.size
        self.assertEqual((type(lot), lot), (list, sorted(set(lot))))
        self.assertTrue(is_told_room(size, room))
        self.assertIn(parting, plain_partings(pairs.many - 1 if kind == "all" else pairs.many))
        self.assertTrue(plain_judge(kind, pairs, place, found))

    def test_not_free_by_itself(self):
        for pairs, place in ((TWO, 2), (Pairs(0, [([], [])]), 0), (Pairs(3, [([0] * 3, [1, 0, 0])] * 2), 1),
                             (Pairs(1, [([1], [2])]), 0), (Pairs(2, [([0, 0], [0, 0])]), 0)):
            found = none_paper(pairs, place)
            self.assertEqual((type(found), found), (tuple, ()))
            self.assertEqual([all_paper(pairs, place), some_paper(pairs, place)], [None, None])
            self.assertIs(is_spared_paper(pairs, place, spared_paper(pairs, place)), True)
            for value in kinds() + [((),), ([], [], []), ([0], [], [[0, 1, 2]])]:
                self.assertIs(is_none_paper(pairs, place, value), type(value) is tuple and value == ())

    def test_as_they_stand(self):
        self.assertEqual([all_paper(FOUR, 2), spared_paper(FOUR, 0), some_paper(FOUR, 2), none_paper(FOUR, 0),
                          all_paper(TWO, 0), none_paper(TWO, 0)], [None] * 6)
        one = Pairs(2, [((1, 0), (0, 1))])
        self.assertEqual(all_paper(one, 0), ([0], [], []))
        self.assertEqual(spared_paper(Pairs(1, [([1], [2])]), 0), ([], [], [[0]]))
        self.assertEqual([is_all_paper(one, 0, ([0], [], [])), is_all_paper(one, 0, ([0], [], [[0]])),
                          is_all_paper(one, 0, ([], [], []))], [True, False, False])


class JudgesTest(Case):

    def test_against_plain_judges(self):
        chance = random.Random(82)
        told = []
        for pairs in few_pairs(82, sizes=(2, 3, 4), manies=(1, 2, 3, 4)) + [FOUR, STAR, TWO]:
            for kind, place in itertools.product(JUDGES, range(pairs.many)):
                for value in self.some_values(chance, pairs, place):
                    told.append((kind, plain_judge(kind, pairs, place, value)))
                    self.assertIs(JUDGES[kind](pairs, place, value), told[-1][1])
                    self.assertIs(JUDGES[kind](pairs, place, tupled(value)), told[-1][1])
                    turned = (value[0], rationed(value[1]), [part[::-1] for part in value[2][::-1]])
                    self.assertIs(JUDGES[kind](pairs, place, turned), told[-1][1])
        self.assertEqual(len(set(told)), 8)

    def some_values(self, chance, pairs, place):
        """Lots with rooms and partings, of the pairs, of those without the position and of those behind its pair."""
        lots = [list(lot) for many in range(3) for lot in itertools.combinations(range(pairs.many), many)]
        found = []
        for _ in range(3):
            lot = chance.choice(lots + plain_greatest_lots(pairs))
            bounded = chance.choice([pairs, others(pairs, place), plain_behind(pairs, list(pairs.pair(place)))])
            room = chance.choice([[], [], core(bounded), idle(bounded.size)])
            found.append((lot, room, chance.choice(plain_partings(bounded.many))))
        return found + [value for value in [paper(pairs, place) for paper in PAPERS.values()] if value]

    def test_just_what_is_wanted(self):
        self.assertEqual([is_all_paper(FOUR, 0, ([0, 1], [], [[0, 1]])), is_all_paper(FOUR, 0, ([0], [], [[0, 1]])),
                          is_all_paper(FOUR, 0, ([0, 1], [], [[0], [1]])),
                          is_all_paper(FOUR, 0, ([0, 1], [[0, 0, 1, 0]], [[0], [1]])),
                          is_all_paper(FOUR, 2, ([0, 1], [], [[0], [1]]))], [True, False, False, True, False])
        self.assertEqual([is_none_paper(FOUR, 2, ([0, 1], [], [[0, 1, 2]])),
                          is_none_paper(FOUR, 2, ([0, 1], [], [[2], [1], [0]])),
                          is_none_paper(FOUR, 2, ([0], [], [[0], [1], [2]])), is_none_paper(FOUR, 2, ()),
                          is_none_paper(FOUR, 0, ([0, 1], [], [[0], [1], [2]]))], [False, True, False, False, False])
        self.assertEqual([is_some_paper(STAR, 1, ([1], [IDLE[0]], [[0], [1], [2]])),
                          is_some_paper(STAR, 1, ([0], [IDLE[0]], [[0], [1], [2]])),
                          is_spared_paper(STAR, 1, ([0], [IDLE[0]], [[0], [1], [2]])),
                          is_spared_paper(STAR, 1, ([1], [IDLE[0]], [[0], [1], [2]])),
                          is_some_paper(STAR, 1, ([1], [], [[0, 1, 2]]))], [True, False, True, False, False])

    def test_eight_pairs(self):
        self.assertEqual([is_some_paper(EIGHT, 0, ([0, 1], [], WHOLE)), is_spared_paper(EIGHT, 2, ([0, 1], [], WHOLE)),
                          is_spared_paper(EIGHT, 0, ([0, 1], [], WHOLE)), is_none_paper(EIGHT, 7, ()),
                          is_none_paper(EIGHT, 6, ([0, 1], [], [[at] for at in range(8)])),
                          is_none_paper(EIGHT, 6, ([0, 1], [], WHOLE)),
                          is_all_paper(EIGHT, 0, ([0, 1], [], [list(range(7))]))],
                         [True, True, False, True, True, False, False])
        eight = Pairs(4, [(IDLE[0], IDLE[1])] + [(IDLE[2], IDLE[3])] * 7)
        self.assertIs(is_all_paper(eight, 0, ([0, 5], [], [list(range(7))])), True)

    def test_values_of_every_kind(self):
        good = {"all": ([0, 1], [], [[0, 1]]), "spared": ([0, 1], [], [[0, 1, 2]]), "some": ([0, 1], [], [[0, 1, 2]]),
                "none": ([0, 1], [], [[0], [1], [2]])}
        places = {"all": 0, "spared": 2, "some": 1, "none": 2}
        for kind, judge in JUDGES.items():
            lot, room, parting = good[kind]
            place = places[kind]
            self.assertIs(judge(FOUR, place, (lot, room, parting)), True)
            wrong = kinds() + [[lot, room, parting], (lot, room), (room, parting), (lot, room, parting, []),
                               ((lot, room, parting),), (room, lot, parting), ([0, True], room, parting),
                               ([False, 1], room, parting),
                               (lot, [[True, 0, 0, 0]], parting), (lot, None, parting), (None, room, parting),
                               (lot, room, None), (lot, room, [[False]] + parting[1:]), (lot, room, parting + [[3]])]
            wrong += [(value, room, parting) for value in WRONG_LOTS if value not in ([0, 1], (0, 1))]
            wrong += [(lot, value, parting) for value in wrong_rooms(2 if kind == "none" else 4)]
            wrong += [(lot, room, value) for value in WRONG_PARTINGS if kind != "all"]
            for value in wrong:
                self.assertIs(judge(FOUR, place, value), False, value)


class ConductTest(Case):

    def test_arguments_and_answers(self):
        for pairs in (FOUR, STAR, TWO):
            for place in range(3):
                for call in PAPERS.values():
                    self.answers_alike(call, pairs=pairs, place=place)
                for call in JUDGES.values():
                    self.answers_alike(call, pairs=pairs, place=place, value=([0, 1], [], [[2], (1, 0)]))
                    self.answers_alike(call, pairs=pairs, place=place, value=([0, 1], [[1] + [0] * 3], [[0, 1]]))

    def test_lists_are_not_shared(self):
        for pairs in few_pairs(83, sizes=(4,), manies=(3, 5)):
            for paper in PAPERS.values():
                found = paper(pairs, 1)
                if found:
                    lot, room, parting = found
                    lists = [lot, room, parting] + room + parting
                    self.assertEqual(len({id(part) for part in lists}), len(lists))

    def test_wrong_values(self):
        pairs, places = (InvalidPairs, WRONG_PAIRS), (InvalidPlace, wrong_places(3))
        for call in PAPERS.values():
            self.refuses(call, {"pairs": FOUR, "place": 0}, {"pairs": pairs, "place": places})
            self.fails(InvalidPlace, {"value": 0}, call, Pairs(2, []), 0)
        for call in JUDGES.values():
            self.refuses(call, {"pairs": FOUR, "place": 0, "value": None}, {"pairs": pairs, "place": places})
            self.fails(InvalidPlace, {"value": 0}, call, Pairs(2, []), 0, ())

    def test_too_many(self):
        for call in PAPERS.values():
            for place in range(8):
                self.fails(TooMany, {"what": "pairs", "limit": 7}, call, EIGHT, place)
            for place in wrong_places(8):
                self.fails(InvalidPlace, {"value": place}, call, EIGHT, place)


if __name__ == "__main__":
    unittest.main()
