"""In all, in some, in none [51], pairs without a position [52], behind a pair [53], with a pair put in [54]."""

import random
import unittest

from pairsfree.common import behind_room
from pairsfree.errors import InvalidPair, InvalidPairs, InvalidPlace, TooMany
from pairsfree.lots import greatest
from pairsfree.pairs import Pairs
from pairsfree.ratios import Ratio
from pairsfree.steps import steps
from pairsfree.which import falls, in_all, in_none, in_some, put_in, without
from tests.helper import (WRONG_PAIRS, Case, few_pairs, idle, plain_greatest, plain_greatest_lots, plain_rank,
                          random_rows, rationed, sample_pairs, tupled, wrong_places, wrong_row)

IDLE = idle(4)
FOUR = Pairs(4, [(IDLE[0], IDLE[1]), (IDLE[2], IDLE[3]), (IDLE[0], IDLE[2])])
STAR = Pairs(4, [(IDLE[0], IDLE[1]), (IDLE[0], IDLE[2]), (IDLE[0], IDLE[3])])
EIGHT = Pairs(4, [(IDLE[0], IDLE[1]), (IDLE[2], IDLE[3])] * 4)


def wrong_pairs_of_rows(size):
    """Values of many kinds that are no pair of rows of the size, which is at least 1."""
    row = [0] * size
    return [None, True, 0, "", "00", {}, {0: row, 1: row}, set(), object(), Ratio(1), range(2), [], (), [row], (row,),
            [row, row, row], (row, row, row), [(row, row)], row, Pairs(size, [(row, row)]), [row, None], (None, row),
            iter([row, row])] + [(row, value) for value in wrong_row(size)] + [
            [value, row] for value in wrong_row(size)]


class WhichTest(Case):

    def test_as_they_stand(self):
        self.assertEqual([in_all(FOUR), in_some(FOUR), in_none(FOUR)], [[0, 1], [0, 1], [2]])
        self.assertEqual([in_all(STAR), in_some(STAR), in_none(STAR)], [[], [0, 1, 2], []])
        self.assertEqual([in_all(EIGHT), in_some(EIGHT), in_none(EIGHT)], [[], list(range(8)), []])

    def test_if_none_is_free(self):
        for pairs in (Pairs(0, []), Pairs(3, []), Pairs(0, [([], [])] * 2), Pairs(1, [([1], [2])] * 8),
                      Pairs(2, [([0, 0], [0, 0])])):
            self.assertEqual([in_all(pairs), in_some(pairs), in_none(pairs)], [[], [], list(range(pairs.many))])

    def test_against_a_plain_search(self):
        kinds = []
        for pairs in few_pairs(71) + sample_pairs(71, 1):
            lots = plain_greatest_lots(pairs)
            places = range(pairs.many)
            every = [place for place in places if all(place in lot for lot in lots)]
            some = [place for place in places if any(place in lot for lot in lots)]
            self.assertEqual([in_all(pairs), in_some(pairs)], [every, some])
            self.assertEqual(in_none(pairs), [place for place in places if place not in some])
            kinds.append((bool(every), every == some, len(some) == pairs.many))
        self.assertGreaterEqual(len(set(kinds)), 6)

    def test_in_all_is_in_some(self):
        for pairs in few_pairs(72):
            self.assertTrue(set(in_all(pairs)) <= set(in_some(pairs)))
            self.assertEqual(sorted(in_some(pairs) + in_none(pairs)), list(range(pairs.many)))

    def test_falls(self):
        told = []
        for pairs in few_pairs(73) + sample_pairs(73, 1):
            lots = plain_greatest_lots(pairs)
            for place in range(pairs.many):
                told.append(all(place in lot for lot in lots))
                self.assertIs(falls(pairs, place), told[-1])
                number = greatest(without(pairs, place))
                self.assertEqual(number, len(lots[0]) - (1 if told[-1] else 0))
        self.assertEqual(set(told), {True, False})

    def test_behind_a_pair(self):
        numbers = []
        for pairs in few_pairs(74):
            lots = plain_greatest_lots(pairs)
            for place in range(pairs.many):
                pair = list(pairs.pair(place))
                some = any(place in lot for lot in lots)
                if plain_rank(pair) == 2:
                    number = greatest(behind_room(pairs, steps(pairs.size, pair)))
                    numbers.append(len(lots[0]) - number)
                    self.assertEqual(numbers[-1], 1 if some else 2)
                    self.assertEqual(number, plain_greatest(pairs, pair))
                else:
                    self.assertFalse(some)
        self.assertEqual(set(numbers), {1, 2})


class OtherPairsTest(Case):

    def test_without(self):
        self.assertEqual(without(FOUR, 0), Pairs(4, FOUR.told()[1:]))
        self.assertEqual(without(FOUR, 1), Pairs(4, [FOUR.pair(0), FOUR.pair(2)]))
        self.assertEqual(without(FOUR, 2), Pairs(4, FOUR.told()[:2]))
        self.assertEqual(without(Pairs(0, [([], [])]), 0), Pairs(0, []))
        self.assertEqual(without(EIGHT, 7), Pairs(4, EIGHT.told()[:7]))
        self.assertEqual((FOUR.many, type(without(FOUR, 0))), (3, Pairs))

    def test_put_in(self):
        for pair in ((IDLE[0], IDLE[2]), [IDLE[0], IDLE[2]], tupled((IDLE[0], IDLE[2])), rationed((IDLE[0], IDLE[2]))):
            self.assertEqual(put_in(Pairs(4, FOUR.told()[:2]), pair), FOUR)
        self.assertEqual(put_in(Pairs(0, []), ([], ())), Pairs(0, [([], [])]))
        self.assertEqual(put_in(Pairs(2, []), ([0, 0], [1, 2])), Pairs(2, [([0, 0], [1, 2])]))
        self.assertEqual(put_in(without(EIGHT, 7), EIGHT.pair(7)), EIGHT)
        self.assertEqual((FOUR.many, put_in(FOUR, FOUR.pair(0)).many), (3, 4))

    def test_put_in_at_most_one_more(self):
        chance = random.Random(75)
        found = []
        for pairs in few_pairs(75):
            wider = put_in(pairs, random_rows(chance, pairs.size, 2))
            found.append(greatest(wider) - plain_greatest(pairs))
            self.assertEqual(plain_greatest(wider), greatest(wider))
        self.assertEqual(set(found), {0, 1})

    def test_copied(self):
        pair = ([1, 2], [3, 4])
        pairs = put_in(Pairs(2, []), pair)
        pair[0][0] = 9
        self.assertEqual(pairs, Pairs(2, [([1, 2], [3, 4])]))


class ConductTest(Case):

    def test_arguments_and_answers(self):
        for pairs in (FOUR, STAR, EIGHT):
            for call in (in_all, in_some, in_none):
                self.answers_alike(call, pairs=pairs)
            for call in (falls, without):
                self.answers_alike(call, pairs=pairs, place=1)
        self.answers_alike(put_in, pairs=FOUR, pair=[[1, 0, 2, Ratio(1, 2)], (0, 0, 0, 0)])
        self.answers_alike(put_in, pairs=FOUR, pair=([1, 0, 2, Ratio(1, 2)], [0, 0, 0, 0]))

    def test_wrong_values(self):
        pairs, places = (InvalidPairs, WRONG_PAIRS), (InvalidPlace, wrong_places(3))
        for call in (in_all, in_some, in_none):
            self.refuses(call, {"pairs": FOUR}, {"pairs": pairs})
        for call in (falls, without):
            self.refuses(call, {"pairs": FOUR, "place": 0}, {"pairs": pairs, "place": places})
            self.fails(InvalidPlace, {"value": 0}, call, Pairs(2, []), 0)
        self.refuses(put_in, {"pairs": FOUR, "pair": (IDLE[0], IDLE[1])},
                     {"pairs": pairs, "pair": (InvalidPair, wrong_pairs_of_rows(4))})
        for value in ((), [], [[]], ([], [], []), ([0], [0]), ([], [0]), ([], None)):
            self.fails(InvalidPair, {"value": value}, put_in, Pairs(0, []), value)

    def test_too_many(self):
        self.fails(TooMany, {"what": "pairs", "limit": 8}, put_in, EIGHT, (IDLE[0], IDLE[1]))
        self.fails(TooMany, {"what": "pairs", "limit": 8}, put_in, Pairs(0, [([], [])] * 8), [[], []])
        for value in wrong_pairs_of_rows(4):
            self.fails(InvalidPair, {"value": value}, put_in, EIGHT, value)


if __name__ == "__main__":
    unittest.main()
