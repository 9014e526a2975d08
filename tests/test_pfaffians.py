"""Pfaffians [64] and shares [65]."""

import itertools
import random
import unittest
from fractions import Fraction

from pairsfree.errors import InvalidLot, InvalidPairs, InvalidPlaces, InvalidTable
from pairsfree.pairs import Pairs
from pairsfree.pfaffians import at_places, lot_share, pfaffian, shares
from pairsfree.ratios import Ratio
from pairsfree.turned import turned_sum
from tests.helper import (WRONG_LOTS, WRONG_PAIRS, Case, few_pairs, fraction_rows, idle, lot_rows, numbers_are_ratios,
                          plain_determinant, plain_lots, plain_rank, product_of, random_table, rationed, sample_pairs,
                          tupled, wrong_places_lists, wrong_tables)

RING = Pairs(3, [((1, 0, 0), (0, 1, 0)), ((0, 1, 0), (0, 0, 1)), ((1, 0, 0), (0, 0, 1))])
FOUR = [[0, 1, 2, 3], [-1, 0, 4, 5], [-2, -4, 0, 6], [-3, -5, -6, 0]]


def worth_of(number):
    """The Ratio as a Fraction."""
    return fraction_rows([[number]])[0][0]


def twos(places):
    """All ways to part the places in twos, each a list of tuples."""
    if not places:
        return [[]]
    return [[(places[0], other)] + rest for other in places[1:]
            for rest in twos([place for place in places[1:] if place != other])]


def plain_pfaffian(table):
    """The Pfaffian by all ways to part the places in twos, the sign by how many of the twos cross; Fractions."""
    rows = fraction_rows(table)
    if len(rows) % 2:
        return Fraction(0)
    found = Fraction(0)
    for parting in twos(list(range(len(rows)))):
        crossings = sum(a < c < b < d for (a, b), (c, d) in itertools.permutations(parting, 2))
        found = found + (-1) ** crossings * product_of([rows[i][j] for i, j in parting])
    return found


def places_of(size, lengths):
    """All rising lists of places below the size that have one of the lengths."""
    return [list(places) for length in lengths for places in itertools.combinations(range(size), length)]


class PfaffianTest(Case):

    def test_against_a_plain_way(self):
        chance = random.Random(101)
        for size in range(9):
            for _ in range(4):
                table = random_table(chance, size)
                found = pfaffian(table)
                self.assertIs(type(found), Ratio)
                self.assertEqual(worth_of(found), plain_pfaffian(table))
                for told in (tupled(table), rationed(table)):
                    self.assertEqual(pfaffian(told), found)

    def test_its_square_is_the_determinant(self):
        chance = random.Random(102)
        for size in range(7):
            for _ in range(3):
                table = random_table(chance, size)
                self.assertEqual(worth_of(pfaffian(table) * pfaffian(table)), plain_determinant(table))

    def test_edges(self):
        self.assertEqual([pfaffian([]), pfaffian(()), pfaffian([[0]]), pfaffian([[0] * 7] * 7), pfaffian([[0] * 8] * 8),
                          pfaffian([[0, Ratio(2, 3)], [Ratio(-2, 3), 0]]), pfaffian([[0, -5], [5, 0]])],
                         [Ratio(1), Ratio(1), Ratio(0), Ratio(0), Ratio(0), Ratio(2, 3), Ratio(-5)])
        a, b, c, d, e, f = 2, 3, 5, 7, 11, 13
        table = [[0, a, b, c], [-a, 0, d, e], [-b, -d, 0, f], [-c, -e, -f, 0]]
        self.assertEqual(pfaffian(table), Ratio(a * f - b * e + c * d))

    def test_rank_by_pfaffians(self):
        chance = random.Random(103)
        for size in range(7):
            for _ in range(3):
                table = random_table(chance, size)
                sizes = [len(places) for places in places_of(size, range(size + 1))
                         if pfaffian(at_places(table, places)).sign != 0]
                self.assertEqual(max(sizes), plain_rank(table))


class AtPlacesTest(Case):

    def test_at_places(self):
        chance = random.Random(104)
        for size in range(9):
            table = random_table(chance, size)
            for places in chance.sample(places_of(size, range(size + 1)), min(6, 2 ** size)):
                found = at_places(table, places)
                self.assertTrue(numbers_are_ratios(found))
                self.assertEqual(fraction_rows(found), fraction_rows([[table[i][j] for j in places] for i in places]))
                self.assertEqual(at_places(tupled(rationed(table)), tuple(places)), found)

    def test_edges(self):
        self.assertEqual([at_places([], []), at_places((), ()), at_places([[0]], []), at_places(FOUR, ())], [[]] * 4)
        self.assertEqual(at_places([[0]], [0]), [[Ratio(0)]])
        self.assertEqual(at_places(FOUR, [1, 3]), [[Ratio(0), Ratio(5)], [Ratio(-5), Ratio(0)]])
        self.assertEqual(at_places(FOUR, [0, 1, 2, 3]), rationed(FOUR))


class SharesTest(Case):

    def test_lot_share(self):
        chance = random.Random(105)
        for pairs in few_pairs(105, manies=(1, 2, 3, 4)):
            for many in range(min(pairs.many, pairs.size // 2) + 1):
                for lot in [list(chosen) for chosen in itertools.combinations(range(pairs.many), many)][:3]:
                    for places in chance.sample(places_of(pairs.size, [2 * many]), 1):
                        rows = [[row[place] for place in places] for row in lot_rows(pairs.told(), lot)]
                        found = lot_share(pairs, lot, places)
                        self.assertIs(type(found), Ratio)
                        self.assertEqual(worth_of(found), plain_determinant(rows))
                        self.assertEqual(lot_share(pairs, tuple(lot), tuple(places)), found)

    def test_a_lot_of_four(self):
        chance = random.Random(106)
        rows = [[chance.randint(-3, 3) for _ in range(8)] for _ in range(8)]
        pairs = Pairs(8, [(rows[at], rows[at + 1]) for at in (0, 2, 4, 6)])
        found = lot_share(pairs, [0, 1, 2, 3], list(range(8)))
        self.assertEqual(worth_of(found), plain_determinant(rows))
        self.assertEqual(pfaffian(turned_sum(pairs, [1, 2, 3, Ratio(1, 6)])), found)
        self.assertEqual(shares(pairs, list(range(8))), [([0, 1, 2, 3], found)])

    def test_the_sequence_of_the_rows(self):
        self.assertEqual([lot_share(Pairs(2, [pair]), [0], [0, 1]) for pair in
                          [((1, 0), (0, 1)), ((0, 1), (1, 0)), ((0, 2), (3, 1)), ((1, 2), (2, 4))]],
                         [Ratio(1), Ratio(-1), Ratio(-6), Ratio(0)])

    def test_the_empty_lot(self):
        for pairs in (Pairs(0, []), Pairs(3, []), RING, Pairs(0, [([], [])] * 8)):
            self.assertEqual([lot_share(pairs, [], []), lot_share(pairs, (), ()), shares(pairs, []), shares(pairs, ())],
                             [Ratio(1), Ratio(1), [([], Ratio(1))], [([], Ratio(1))]])

    def test_free_exactly_if_some_share_is_not_nought(self):
        for pairs in few_pairs(107, sizes=(2, 3, 4, 5), manies=(1, 2, 3)):
            for many in range(min(pairs.many, pairs.size // 2) + 1):
                free = plain_lots(pairs, many)
                for lot in [list(chosen) for chosen in itertools.combinations(range(pairs.many), many)]:
                    signs = [lot_share(pairs, lot, places).sign for places in places_of(pairs.size, [2 * many])]
                    self.assertIs(any(signs), lot in free)

    def test_shares(self):
        chance = random.Random(108)
        for pairs in few_pairs(108, manies=(0, 1, 3, 4, 7)) + sample_pairs(108, 1):
            for many in range(min(pairs.size // 2, 2) + 1):
                places = chance.choice(places_of(pairs.size, [2 * many]))
                wanted = []
                for lot in itertools.combinations(range(pairs.many), many):
                    rows = [[row[place] for place in places] for row in lot_rows(pairs.told(), lot)]
                    if plain_determinant(rows):
                        wanted.append((list(lot), plain_determinant(rows)))
                found = shares(pairs, places)
                self.assertEqual([(lot, worth_of(share)) for lot, share in found], wanted)
                told = {(type(part), type(part[0]), type(part[1])) for part in found}
                self.assertLessEqual(told, {(tuple, list, Ratio)})
                self.assertEqual(shares(pairs, tuple(places)), found)

    def test_pfaffians_of_turned_sums(self):
        chance = random.Random(109)
        for pairs in few_pairs(109, manies=(0, 1, 3, 4)):
            numbers = [chance.choice([0, 1, -2, Ratio(1, 3)]) for _ in range(pairs.many)]
            table = turned_sum(pairs, numbers)
            evenly = places_of(pairs.size, range(0, pairs.size + 1, 2))
            for places in chance.sample(evenly, min(4, len(evenly))):
                told = [worth_of(share) * product_of([worth_of(numbers[place]) for place in lot])
                        for lot, share in shares(pairs, places)]
                self.assertEqual(worth_of(pfaffian(at_places(table, places))), sum(told))

    def test_eight_pairs(self):
        eight = Pairs(4, [(idle(4)[0], idle(4)[1])] * 4 + [(idle(4)[2], idle(4)[3])] * 4)
        found = shares(eight, [0, 1, 2, 3])
        self.assertEqual([lot for lot, _ in found], [[one, other] for one in range(4) for other in range(4, 8)])
        self.assertEqual(shares(eight, [0, 2]), [])


class ConductTest(Case):

    def test_arguments_and_answers(self):
        table = [[0, Ratio(1, 2), 3], (Ratio(-1, 2), 0, 5), [-3, -5, 0]]
        self.answers_alike(pfaffian, table=FOUR)
        self.answers_alike(pfaffian, table=table)
        self.answers_alike(at_places, table=table, places=[0, 2])
        self.answers_alike(at_places, table=tupled(FOUR), places=(0, 1, 2, 3))
        self.answers_alike(lot_share, pairs=RING, lot=[1], places=[1, 2])
        self.answers_alike(shares, pairs=Pairs(3, RING.told() * 2), places=[0, 2])
        self.answers_alike(shares, pairs=RING, places=[])

    def test_lists_are_not_shared(self):
        found = shares(Pairs(3, RING.told() * 2), [0, 2])
        self.assertEqual(len({id(part) for part in [found] + [lot for lot, _ in found]}), 3)
        found = at_places([[0] * 3] * 3, [0, 1, 2])
        self.assertEqual(len({id(part) for part in [found] + found}), 4)

    def test_wrong_tables(self):
        places = (InvalidPlaces, wrong_places_lists(4))
        self.refuses(pfaffian, {"table": FOUR}, {"table": (InvalidTable, wrong_tables())})
        self.refuses(at_places, {"table": FOUR, "places": []},
                     {"table": (InvalidTable, wrong_tables()), "places": places})
        for table in ([], [[0]]):
            self.fails(InvalidPlaces, {"value": [1]}, at_places, table, [1])
        self.fails(InvalidPlaces, {"value": [0]}, at_places, [], [0])

    def test_wrong_values(self):
        pairs, lots = (InvalidPairs, WRONG_PAIRS), (InvalidLot, WRONG_LOTS)
        places = (InvalidPlaces, wrong_places_lists(3) + [[], [0], [0, 1, 2], [1, 3], (0,), ()])
        self.refuses(lot_share, {"pairs": RING, "lot": [0], "places": [0, 1]},
                     {"pairs": pairs, "lot": lots, "places": places})
        self.refuses(shares, {"pairs": RING, "places": [0, 1]},
                     {"pairs": pairs, "places": (InvalidPlaces, wrong_places_lists(3) + [[0], [0, 1, 2], (2,)])})
        for value in ([0], [0, 1], [0, 1, 2]):
            self.fails(InvalidPlaces, {"value": value}, lot_share, RING, [], value)
            self.fails(InvalidPlaces, {"value": value}, lot_share, RING, [0, 1, 2], value)
        self.fails(InvalidPlaces, {"value": [0, 1]}, shares, Pairs(1, []), [0, 1])
        for value in ([0], (0, 1, 2)):
            self.fails(InvalidPlaces, {"value": value}, shares, Pairs(3, []), value)


if __name__ == "__main__":
    unittest.main()
