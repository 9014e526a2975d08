"""Two houses [74] and covers [75]."""

import itertools
import random
import unittest

from pairsfree.bounds import part_ranks, worth
from pairsfree.errors import InvalidPlaces, InvalidRows
from pairsfree.houses import both_free, cover, cover_worth, house_pairs, is_cover
from pairsfree.lots import greatest, is_free
from pairsfree.pairs import Pairs
from pairsfree.ratios import Ratio
from pairsfree.steps import steps
from tests.helper import Case, kinds, plain_rank, random_rows, rationed, tupled, wrong_places_lists

FIRST, SECOND = [[1, 0], [2, 0], [0, 1]], [[1], [0], [3]]
WRONG_HOUSES = [None, True, 0, 3, "", "000", {}, {0: [1]}, set(), object(), Ratio(1), range(3), [1, 2, 3],
                [[1], [2], 3],
                [[1], [2], [3, 4]], [[], [1], [2]], [[1], [2], []], [[1] * 5] * 3, [[1], [True], [2]],
                [[False], [1], [1]],
                [[1], [2], None], [["1"], ["2"], ["3"]], [[1], [2], [None]], [[[1]]] * 3, [[0]] * 9, tuple([[0]] * 9),
                iter([[1], [2], [3]]), [[1], [2], "3"], [[1], [2], {3: 1}], Pairs(1, [([0], [1])]),
                ((1,), (1, 2), (3,))]


def sample_houses(seed, times=2):
    """Two houses of all numbers of rows and sizes, with rows alike and of noughts; the same at each call."""
    chance = random.Random(seed)
    found = [(FIRST, SECOND), ([], [])]
    for many, left, right in itertools.product((1, 2, 3, 5, 8), (0, 1, 2, 4), (0, 1, 3, 4)):
        for _ in range(times if many < 8 else 1):
            houses = []
            for size in (left, right):
                some = random_rows(chance, size, max(1, many // 2)) + random_rows(chance, size, many)
                houses.append([chance.choice(some) for _ in range(many)])
            found.append(tuple(houses))
    return found


def rows_at(rows, places):
    return [rows[place] for place in places]


def plain_both_free(first, second):
    """The greatest number of positions of a lot that is free in both, by going through all lots."""
    places = range(len(first))
    return max(many for many in range(min(4, len(first)) + 1) for lot in itertools.combinations(places, many)
               if plain_rank(rows_at(first, lot)) == many == plain_rank(rows_at(second, lot)))


def plain_cover_worth(first, second, places):
    others = [place for place in range(len(first)) if place not in places]
    return plain_rank(rows_at(first, places)) + plain_rank(rows_at(second, others))


def some_places(chance, many):
    return [sorted(chance.sample(range(many), chance.randint(0, many))) for _ in range(4)] + [[], list(range(many))]


class HousePairsTest(Case):

    def test_as_the_words_tell(self):
        for first, second in sample_houses(121):
            found = house_pairs(first, second)
            left, right = (len(house[0]) if house else 0 for house in (first, second))
            self.assertIs(type(found), Pairs)
            self.assertEqual((found.size, found.many), (left + right, len(first)))
            for place, (one, other) in enumerate(found.told()):
                self.assertEqual(one, rationed(list(first[place]) + [0] * right))
                self.assertEqual(other, rationed([0] * left + list(second[place])))

    def test_free_in_both(self):
        chance = random.Random(122)
        for first, second in sample_houses(122):
            pairs = house_pairs(first, second)
            for lot in some_places(chance, len(first)):
                both = plain_rank(rows_at(first, lot)) == len(lot) == plain_rank(rows_at(second, lot))
                self.assertIs(is_free(pairs, lot), both)

    def test_greatest_number(self):
        for first, second in sample_houses(123):
            number = plain_both_free(first, second)
            self.assertEqual(both_free(first, second), number)
            self.assertIs(type(both_free(first, second)), int)
            self.assertEqual(greatest(house_pairs(first, second)), number)
            self.assertEqual(both_free(second, first), number)

    def test_edges(self):
        self.assertEqual(house_pairs([], []), Pairs(0, []))
        self.assertEqual(house_pairs([[], []], ((), ())), Pairs(0, [([], []), ([], [])]))
        self.assertEqual(house_pairs([[]], [[2]]), Pairs(1, [([0], [2])]))
        self.assertEqual([both_free([[]] * 3, [[1]] * 3), cover([[]] * 3, [[]] * 3) in ([], [0], [0, 1, 2]),
                          both_free([[1, 0], [1, 0]], [[1, 0], [0, 1]])], [0, True, 1])
        eight = [[1 if place % 4 == at else 0 for at in range(4)] for place in range(8)]
        self.assertEqual([both_free(eight, eight), house_pairs(eight, eight).size, house_pairs(eight, eight).many],
                         [4, 8, 8])


class CoverTest(Case):

    def test_worth(self):
        chance = random.Random(124)
        for first, second in sample_houses(124):
            number = plain_both_free(first, second)
            for places in some_places(chance, len(first)):
                found = cover_worth(first, second, places)
                self.assertEqual(found, plain_cover_worth(first, second, places))
                self.assertIs(type(found), int)
                self.assertEqual(cover_worth(first, second, tuple(places)), found)
                self.assertGreaterEqual(found, number)
                self.assertIs(is_cover(first, second, places), found == number)
                self.assertIs(is_cover(first, second, tuple(places)), found == number)

    def test_covers(self):
        for first, second in sample_houses(125):
            found = cover(first, second)
            self.assertEqual((type(found), found), (list, sorted(set(found))))
            self.assertEqual({type(place) for place in found} - {int}, set())
            self.assertEqual(plain_cover_worth(first, second, found), plain_both_free(first, second))
            self.assertIs(is_cover(first, second, found), True)

    def test_neither_none_nor_all(self):
        """Where only one list of positions, neither none nor all of them, is a cover."""
        one, other = [[1], [1], [1], [0]], [[0], [0], [0], [1]]
        self.assertEqual([cover_worth(one, other, []), cover_worth(one, other, [0, 1, 2, 3]), both_free(one, other)],
                         [1, 1, 0])
        self.assertEqual([is_cover(one, other, places) for places in ([], [0], [3], [0, 3], [0, 1, 2, 3])],
                         [False, False, True, False, False])
        self.assertEqual(cover(one, other), [3])

    def test_a_cover_is_a_bound(self):
        chance = random.Random(126)
        for first, second in sample_houses(126):
            pairs = house_pairs(first, second)
            for places in [cover(first, second)] + some_places(chance, len(first)):
                rows = [pair[0 if place in places else 1] for place, pair in enumerate(pairs.told())]
                room, parting = steps(pairs.size, rows), [[place] for place in range(pairs.many)]
                self.assertEqual(worth(pairs, room, parting), cover_worth(first, second, places))
                self.assertLessEqual(max(part_ranks(pairs, room, parting), default=0), 1)

    def test_values_of_every_kind(self):
        one, other = [[1], [1], [1], [0]], [[0], [0], [0], [1]]
        for value in wrong_places_lists(4) + kinds():
            self.assertIs(is_cover(one, other, value), False)
        for value in ([3], (3,)):
            self.assertIs(is_cover(one, other, value), True)
        for value in ([True], [Ratio(3)], ["3"], [[3]], {3}, {3: 3}, 3, range(3, 4), [3, 3], [-1], [4], [3, None]):
            self.assertIs(is_cover(one, other, value), False)
        for value in kinds():
            self.assertIs(is_cover([], [], value), type(value) in (list, tuple) and len(value) == 0)


class ConductTest(Case):

    def test_arguments_and_answers(self):
        for first, second in [(FIRST, SECOND), ([], []), ([[1, 2]] * 8, [[1, 2, 3, 4]] * 8), ([[], []], [[1], [2]])]:
            for form in (list, tupled, rationed):
                given = {"first": form(first), "second": form(second)}
                for call in (house_pairs, both_free, cover):
                    self.answers_alike(call, **given)
                    self.assertEqual(call(**given), call(first, second))
                for places in ([], [0] if first else [], tuple(range(len(first)))):
                    self.answers_alike(cover_worth, **given, places=places)
                    self.answers_alike(is_cover, **given, value=places)

    def test_wrong_values(self):
        houses, places = (InvalidRows, WRONG_HOUSES), (InvalidPlaces, wrong_places_lists(3))
        second = (InvalidRows, WRONG_HOUSES + [[], [[1]], [[1]] * 2, [[1]] * 4, [[1]] * 8])
        for call in (house_pairs, both_free, cover):
            self.refuses(call, {"first": FIRST, "second": SECOND}, {"first": houses, "second": second})
        self.refuses(is_cover, {"first": FIRST, "second": SECOND, "value": None}, {"first": houses, "second": second})
        self.refuses(cover_worth, {"first": FIRST, "second": SECOND, "places": [1]},
                     {"first": houses, "second": second, "places": places})
        self.fails(InvalidPlaces, {"value": [0]}, cover_worth, [], [], [0])
        self.fails(InvalidRows, {"value": [[1]]}, both_free, [], [[1]])


if __name__ == "__main__":
    unittest.main()
