"""Webs [71], barriers [72], places that may be left [73]."""

import itertools
import random
import unittest

from pairsfree.bounds import worth
from pairsfree.common import common_room
from pairsfree.errors import InvalidPlaces, InvalidSize, InvalidTies, InvalidWeb
from pairsfree.lots import greatest
from pairsfree.pairs import Pairs
from pairsfree.ratios import Ratio
from pairsfree.webs import (Web, barrier, barrier_worth, is_barrier, is_matching, left_places, matching,
                            matching_number, pieces, web_pairs)
from tests.helper import Case, idle, kinds, plain_rank, spoil, wrong_places_lists, wrong_sizes

KITE = Web(5, [(0, 1), (1, 2), (0, 2), (2, 3), (3, 4)])
STAR = Web(4, [(0, 1), (0, 2), (0, 3)])
WRONG_WEBS = [None, True, 0, "", "Web(0, [])", [], [(0, 1)], (2, [(0, 1)]), {}, Ratio(1), Web, object(), Pairs(2, [])]
WRONG_TIES = [None, True, 0, "", "01", {}, {(0, 1): 1}, {(0, 1)}, object(), Ratio(1), range(2), [(0, 1)] * 9,
              tuple([(0, 1)] * 9), [[0, 1]], [(0, 1), [0, 1]], [(1, 0)], [(1, 1)], [(0, 3)], [(3, 4)], [(-1, 0)],
              [(0,)], [(0, 1, 2)], [()], [None], [0], ["01"], [(False, 1)], [(0, True)], [(0, Ratio(1))], [(0, "1")],
              [(0, None)],
              [(0, 1), (0, 1), (2, 1)], [((0, 1),)], (0, 1), iter([(0, 1)]), [(0, 10 ** 30)], Web(0, [])]


def small_webs(seed, times=2):
    """Webs of all sizes and numbers of ties, alike ties and lonely places among them; the same at each call."""
    chance = random.Random(seed)
    found = [KITE, STAR]
    for size, many in itertools.product(range(9), (0, 1, 2, 3, 4, 5, 6, 8)):
        for _ in range(times if size > 1 else 1 - min(many, 1)):
            found.append(Web(size, [tuple(sorted(chance.sample(range(size), 2))) for _ in range(many)]))
    return found


def plain_matchings(web, many):
    """All lots of so many ties of which no two share a place."""
    ties = web.ties()
    lots = [list(lot) for lot in itertools.combinations(range(web.many), many)]
    return [lot for lot in lots if all(not set(ties[a]) & set(ties[b]) for a, b in itertools.combinations(lot, 2))]


def plain_greatest_matchings(web):
    """All greatest matchings."""
    return [lots for lots in [plain_matchings(web, many) for many in range(5)] if lots][-1]


def plain_pieces(web, places):
    """The pieces without the places: from each place by ties as far as it goes."""
    found = []
    for start in [place for place in range(web.size) if place not in places]:
        piece = {start}
        for _ in range(web.size):
            piece |= {place for tie in web.ties() if set(tie) & piece and not set(tie) & set(places) for place in tie}
        if sorted(piece) not in found:
            found.append(sorted(piece))
    return sorted(found)


def plain_barrier_worth(web, places):
    """Twice the barrier worth, as it is told."""
    return web.size + len(places) - sum(len(piece) % 2 for piece in plain_pieces(web, places))


def some_places(chance, web):
    """Some rising lists of places of the web."""
    return [sorted(chance.sample(range(web.size), chance.randint(0, web.size))) for _ in range(3)]


class WebTest(Case):

    def test_told(self):
        for size, ties in ((0, []), (8, []), (2, [(0, 1)] * 8), (8, [(0, 7), (6, 7), (0, 1), (0, 7)])):
            for given in (ties, tuple(ties)):
                web = Web(size, given)
                self.assertEqual((web.size, web.many, web.ties()), (size, len(ties), ties))
                self.assertEqual((type(web.size), type(web.many), type(web.ties())), (int, int, list))
                self.assertEqual({type(tie) for tie in web.ties()} - {tuple}, set())
                self.assertEqual(repr(web), f"Web({size}, {ties!r})")
                self.assertEqual(repr(Web(ties=given, size=size)), repr(web))

    def test_equal(self):
        web = Web(4, [(0, 1), (2, 3)])
        self.assertIs(web == Web(4, ((0, 1), (2, 3))), True)
        self.assertIs(web != Web(4, [(0, 1), (2, 3)]), False)
        for other in [Web(5, [(0, 1), (2, 3)]), Web(4, [(2, 3), (0, 1)]), Web(4, [(0, 1)]), Web(4, []), (4, web.ties()),
                      web.ties(), repr(web), web_pairs(web)] + kinds():
            self.assertIs(web == other, False)
            self.assertIs(other == web, False)
            self.assertIs(web != other, True)
        self.assertEqual([Web(0, []) == Web(0, ()), Web(1, []) == Web(0, [])], [True, False])

    def test_never_changes(self):
        given = [(0, 1), (1, 2)]
        web = Web(3, given)
        spoil(given)
        spoil(web.ties())
        web.ties().clear()
        self.assertEqual(repr(web), "Web(3, [(0, 1), (1, 2)])")
        for name in ("size", "many"):
            with self.assertRaises(AttributeError):
                setattr(web, name, 0)

    def test_wrong_values(self):
        self.refuses(Web, {"size": 3, "ties": []},
                     {"size": (InvalidSize, wrong_sizes(8)), "ties": (InvalidTies, WRONG_TIES)})
        for size in (0, 1):
            self.fails(InvalidTies, {"value": [(0, 1)]}, Web, size, [(0, 1)])

    def test_web_pairs(self):
        for web in small_webs(111):
            rows = idle(web.size)
            found = web_pairs(web)
            self.assertIs(type(found), Pairs)
            self.assertEqual(found, Pairs(web.size, [(rows[i], rows[j]) for i, j in web.ties()]))


class MatchingTest(Case):

    def test_is_matching(self):
        for web in small_webs(112, 1):
            told = web_pairs(web).told()
            for many in range(min(web.many, 5) + 1):
                lots = plain_matchings(web, many)
                for lot in itertools.combinations(range(web.many), many):
                    wanted = list(lot) in lots
                    self.assertIs(is_matching(web, list(lot)), wanted)
                    self.assertIs(is_matching(web, lot), wanted)
                    self.assertIs(plain_rank([row for place in lot for row in told[place]]) == 2 * many, wanted)

    def test_values_of_every_kind(self):
        for value in [[1, 0], [0, 0], [4, 0], [5], [0, 5], [-1], [True], [False], [0, True], [Ratio(0)], ["0"], [[0]],
                      (4, 0), None, 0, True, "", {}, {0}, {0: 4}, range(1), [(0, 1)], (0, 1), object(), iter([0]),
                      [None]]:
            self.assertIs(is_matching(KITE, value), False)
        for value in ([], (), [0], (4,), [0, 4], (0, 4), [1, 4], [0, 3]):
            self.assertIs(is_matching(KITE, value), True)
        for value in kinds():
            is_list = type(value) in (list, tuple)
            self.assertIs(is_matching(Web(0, []), value), is_list and len(value) == 0)
            nought = is_list and len(value) == 1 and type(value[0]) is int and value[0] == 0
            self.assertIs(is_matching(Web(2, [(0, 1)]), value), is_list and (len(value) == 0 or nought))

    def test_greatest_matchings(self):
        for web in small_webs(113):
            lots = plain_greatest_matchings(web)
            self.assertEqual(matching_number(web), len(lots[0]))
            self.assertIs(type(matching_number(web)), int)
            self.assertEqual(matching_number(web), greatest(web_pairs(web)))
            self.assertIn(matching(web), lots)

    def test_edges(self):
        for size in (0, 1, 8):
            web = Web(size, [])
            self.assertEqual([matching_number(web), matching(web), left_places(web), barrier(web), pieces(web, [])],
                             [0, [], list(range(size)), [], [[place] for place in range(size)]])
        alike = Web(2, [(0, 1)] * 8)
        self.assertEqual([matching_number(alike), len(matching(alike)), left_places(alike), is_barrier(alike, [])],
                         [1, 1, [], True])


class BarrierTest(Case):

    def test_pieces(self):
        chance = random.Random(114)
        for web in small_webs(114):
            for places in [[], list(range(web.size))] + some_places(chance, web):
                wanted = plain_pieces(web, places)
                self.assertEqual(pieces(web, places), wanted)
                self.assertEqual(pieces(web, tuple(places)), wanted)
                self.assertEqual(2 * barrier_worth(web, places), plain_barrier_worth(web, places))
                self.assertEqual(barrier_worth(web, tuple(places)), barrier_worth(web, places))
                self.assertIs(type(barrier_worth(web, places)), int)

    def test_as_they_stand(self):
        self.assertEqual([pieces(KITE, []), pieces(KITE, [2]), pieces(KITE, (0, 3)), pieces(KITE, [0, 1, 2, 3, 4])],
                         [[[0, 1, 2, 3, 4]], [[0, 1], [3, 4]], [[1, 2], [4]], []])
        self.assertEqual([barrier_worth(STAR, []), barrier_worth(STAR, [0]), barrier_worth(STAR, [0, 1, 2, 3]),
                          barrier_worth(Web(0, []), []), barrier_worth(Web(3, []), [])], [2, 1, 4, 0, 0])
        web = Web(7, [(5, 6), (0, 4), (2, 4), (1, 5)])
        self.assertEqual(pieces(web, []), [[0, 2, 4], [1, 5, 6], [3]])

    def test_never_below_the_matching_number(self):
        chance = random.Random(115)
        for web in small_webs(115):
            number = len(plain_greatest_matchings(web)[0])
            for places in some_places(chance, web):
                self.assertGreaterEqual(barrier_worth(web, places), number)
                self.assertIs(is_barrier(web, places), barrier_worth(web, places) == number)
                self.assertIs(is_barrier(web, tuple(places)), barrier_worth(web, places) == number)

    def test_barriers(self):
        for web in small_webs(116):
            found = barrier(web)
            self.assertEqual((type(found), found), (list, sorted(set(found))))
            self.assertEqual(plain_barrier_worth(web, found), 2 * len(plain_greatest_matchings(web)[0]))
            self.assertIs(is_barrier(web, found), True)

    def test_a_barrier_is_a_bound(self):
        chance = random.Random(117)
        for web in small_webs(117):
            for places in [barrier(web)] + some_places(chance, web):
                ties = web.ties()
                cut = [at for at, tie in enumerate(ties) if set(tie) & set(places)]
                parts = [[at for at, tie in enumerate(ties) if set(tie) <= set(piece)] for piece in pieces(web, places)]
                parting = [part for part in parts if part] + [[at] for at in cut]
                room = [idle(web.size)[place] for place in places]
                self.assertEqual(worth(web_pairs(web), room, parting), barrier_worth(web, places))

    def test_is_barrier_of_every_kind(self):
        for value in wrong_places_lists(4) + [[0], [1], [0, 1], [3, 0], (0, 1, 2, 3)]:
            wanted = type(value) in (list, tuple) and list(value) == [0]
            self.assertIs(is_barrier(STAR, value), wanted)
        self.assertEqual([is_barrier(STAR, [False]), is_barrier(STAR, [Ratio(0)]), is_barrier(STAR, (0,))],
                         [False, False, True])
        for value in kinds():
            is_list = type(value) in (list, tuple)
            self.assertIs(is_barrier(Web(0, []), value), is_list and len(value) == 0)

    def test_left_places(self):
        for web in small_webs(118):
            ties = web.ties()
            lots = plain_greatest_matchings(web)
            wanted = [place for place in range(web.size)
                      if any(all(place not in ties[at] for at in lot) for lot in lots)]
            self.assertEqual(left_places(web), wanted)
            room = common_room(web_pairs(web))
            held = [place for place in range(web.size)
                    if plain_rank(room + [idle(web.size)[place]]) == len(room)]
            self.assertEqual(held, [place for place in range(web.size) if place not in wanted])
            beside = sorted({place for tie in ties if set(tie) & set(wanted) for place in tie} - set(wanted))
            self.assertIs(is_barrier(web, beside), True)


class ConductTest(Case):

    def test_arguments_and_answers(self):
        for web in (KITE, STAR, Web(0, []), Web(8, [(0, 1), (0, 1), (2, 7)])):
            for call in (web_pairs, matching_number, matching, barrier, left_places):
                self.answers_alike(call, web=web)
            for call in (is_matching, is_barrier):
                self.answers_alike(call, web=web, value=[0, 2])
            places = [place for place in (0, 2) if place < web.size]
            for call in (pieces, barrier_worth):
                self.answers_alike(call, web=web, places=places)
                self.answers_alike(call, web=web, places=tuple(places))
        self.answers_alike(Web, size=3, ties=[(0, 1), (1, 2)])
        self.answers_alike(KITE.ties)

    def test_lists_are_not_shared(self):
        for web in small_webs(119, 1):
            found = pieces(web, [])
            self.assertEqual(len({id(part) for part in [found] + found}), len(found) + 1)

    def test_wrong_values(self):
        webs, places = (InvalidWeb, WRONG_WEBS), (InvalidPlaces, wrong_places_lists(4))
        for call in (web_pairs, matching_number, matching, barrier, left_places):
            self.refuses(call, {"web": STAR}, {"web": webs})
        for call in (is_matching, is_barrier):
            self.refuses(call, {"web": STAR, "value": None}, {"web": webs})
        for call in (pieces, barrier_worth):
            self.refuses(call, {"web": STAR, "places": []}, {"web": webs, "places": places})
            self.fails(InvalidPlaces, {"value": [0]}, call, Web(0, []), [0])


if __name__ == "__main__":
    unittest.main()
