"""Turned tables [61], turned sums [62], their ranks [63]."""

import itertools
import random
import unittest
from fractions import Fraction

from pairsfree.errors import InvalidNumbers, InvalidPairs
from pairsfree.pairs import Pairs
from pairsfree.ratios import Ratio
from pairsfree.turned import is_trial, is_turned, rank_at, trial_numbers, turned_sum
from tests.helper import (WRONG_PAIRS, Case, few_pairs, fraction_rows, idle, kinds, lot_rows, numbers_are_ratios,
                          plain_greatest, plain_greatest_lots, plain_lots, plain_rank, random_table, rationed,
                          sample_pairs, tupled, wrong_numbers, wrong_tables)

RING = Pairs(3, [((1, 0, 0), (0, 1, 0)), ((0, 1, 0), (0, 0, 1)), ((1, 0, 0), (0, 0, 1))])
EIGHT = Pairs(8, [(idle(8)[at], idle(8)[at + 1]) for at in (0, 2, 4, 6)] * 2)


def random_numbers(chance, many):
    """Some numbers, noughts and fractions among them."""
    return [chance.choice([0, chance.randint(-3, 3), Ratio(chance.randint(-3, 3), chance.randint(1, 3))])
            for _ in range(many)]


def plain_sum(pairs, numbers):
    """The turned sum by its words; Fractions."""
    told = [fraction_rows(pair) for pair in pairs.told()]
    numbers = fraction_rows([numbers])[0]
    return [[sum((x * (a[p] * b[q] - b[p] * a[q]) for x, (a, b) in zip(numbers, told)), Fraction(0))
             for q in range(pairs.size)] for p in range(pairs.size)]


class IsTurnedTest(Case):

    def test_turned(self):
        chance = random.Random(91)
        for size in range(9):
            for _ in range(4):
                table = random_table(chance, size)
                for told in (table, tupled(table), rationed(table), tuple(table), [tuple(row) for row in table]):
                    self.assertIs(is_turned(told), True)
                self.assertEqual(plain_rank(table) % 2, 0)

    def test_one_number_changed(self):
        chance = random.Random(92)
        for size in range(1, 9):
            table = random_table(chance, size)
            i, j = chance.randrange(size), chance.randrange(size)
            table[i][j] = table[i][j] + Ratio(1, 7)
            self.assertIs(is_turned(table), False)

    def test_edges(self):
        for value in ([], (), [[0]], ((Ratio(0),),), [[0, 1], [-1, 0]], [[0, Ratio(1, 2)], (Ratio(-1, 2), 0)],
                      [[0] * 8] * 8, [[0, Ratio(2)], [-2, Ratio(0)]]):
            self.assertIs(is_turned(value), True)
        for value in wrong_tables():
            self.assertIs(is_turned(value), False)

    def test_values_of_every_kind(self):
        for value in kinds():
            is_list = type(value) in (list, tuple)
            nought = is_list and len(value) == 1 and type(value[0]) in (list, tuple) and len(value[0]) == 1 and (
                type(value[0][0]) is int and value[0][0] == 0)
            self.assertIs(is_turned(value), is_list and (len(value) == 0 or nought))


class TurnedSumTest(Case):

    def test_by_its_words(self):
        chance = random.Random(93)
        for pairs in few_pairs(93) + sample_pairs(93, 1):
            numbers = random_numbers(chance, pairs.many)
            found = turned_sum(pairs, numbers)
            self.assertTrue(numbers_are_ratios(found))
            self.assertEqual(fraction_rows(found), plain_sum(pairs, numbers))
            self.assertIs(is_turned(found), True)
            self.assertEqual(rank_at(pairs, numbers), plain_rank(found))
            self.assertIs(type(rank_at(pairs, numbers)), int)

    def test_edges(self):
        self.assertEqual([turned_sum(Pairs(0, []), []), turned_sum(Pairs(0, [([], [])]), (5,)),
                          rank_at(Pairs(0, []), ())], [[], [], 0])
        nought = [[Ratio(0)] * 2] * 2
        self.assertEqual([turned_sum(Pairs(2, []), []), turned_sum(Pairs(2, [([1, 2], [2, 4])]), [3])], [nought] * 2)
        self.assertEqual(turned_sum(Pairs(1, [([1], [2])]), [3]), [[Ratio(0)]])
        self.assertEqual([str(number) for row in turned_sum(RING, [1, Ratio(1, 2), 3]) for number in row],
                         ["0", "1", "3", "-1", "0", "1/2", "-3", "-1/2", "0"])
        self.assertEqual([rank_at(EIGHT, [1] * 8), rank_at(EIGHT, [1] * 4 + [-1] * 4), rank_at(EIGHT, [1] + [0] * 7)],
                         [8, 0, 2])

    def test_rows_are_made_of_the_rows_that_count(self):
        chance = random.Random(94)
        for pairs in few_pairs(94):
            numbers = random_numbers(chance, pairs.many)
            counted = [place for place in range(pairs.many) if Ratio(0) + numbers[place] != Ratio(0)]
            rows = lot_rows(pairs.told(), counted)
            self.assertEqual(plain_rank(rows + turned_sum(pairs, numbers)), plain_rank(rows))

    def test_mixed_within_a_pair(self):
        chance = random.Random(95)
        for pairs in few_pairs(95, manies=(1, 3)):
            c, d, e, f = [chance.randint(-3, 3) for _ in range(4)]
            a, b = pairs.pair(0)
            mixed = ([c * x + d * y for x, y in zip(a, b)], [e * x + f * y for x, y in zip(a, b)])
            numbers = random_numbers(chance, pairs.many)
            self.assertEqual(turned_sum(Pairs(pairs.size, [mixed] + pairs.told()[1:]), numbers),
                             turned_sum(pairs, [(c * f - d * e) * numbers[0]] + numbers[1:]))

    def test_ranks(self):
        chance = random.Random(96)
        for pairs in few_pairs(96):
            number = plain_greatest(pairs)
            for _ in range(2):
                numbers = random_numbers(chance, pairs.many)
                self.assertLessEqual(rank_at(pairs, numbers), 2 * number)
                self.assertEqual(rank_at(pairs, numbers) % 2, 0)
            for many in range(number + 1):
                for lot in plain_lots(pairs, many)[:3]:
                    self.assertEqual(rank_at(pairs, [int(place in lot) for place in range(pairs.many)]), 2 * many)


class TrialTest(Case):

    def test_trial_numbers(self):
        for pairs in few_pairs(97) + sample_pairs(97, 1):
            found = trial_numbers(pairs)
            self.assertEqual((type(found), len(found)), (list, pairs.many))
            self.assertEqual({type(number) for number in found} - {Ratio}, set())
            self.assertEqual(plain_rank(plain_sum(pairs, found)), 2 * plain_greatest(pairs))
            self.assertIs(is_trial(pairs, found), True)

    def test_is_trial(self):
        chance = random.Random(98)
        told = []
        for pairs in few_pairs(98) + sample_pairs(98, 1):
            lot = plain_greatest_lots(pairs)[-1]
            for numbers in ([0] * pairs.many, [int(place in lot) for place in range(pairs.many)],
                            random_numbers(chance, pairs.many)):
                told.append(plain_rank(plain_sum(pairs, numbers)) == 2 * plain_greatest(pairs))
                for value in (numbers, tuple(numbers), rationed(numbers)):
                    self.assertIs(is_trial(pairs, value), told[-1])
        self.assertEqual(set(told), {True, False})

    def test_none_that_is_free(self):
        for pairs in (Pairs(0, [([], [])]), Pairs(1, [([1], [2])]), Pairs(2, [([1, 2], [2, 4])])):
            self.assertEqual([is_trial(pairs, [0]), is_trial(pairs, [7]), is_trial(pairs, [])], [True, True, False])
        self.assertEqual([is_trial(Pairs(0, []), []), is_trial(Pairs(4, []), ()), trial_numbers(Pairs(4, []))],
                         [True, True, []])

    def test_values_of_every_kind(self):
        for value in wrong_numbers(3) + [[True, 0, 0], [1, 1, False], [1, 0, True], ([1], 0, 0)]:
            self.assertIs(is_trial(RING, value), False)
        none, one = Pairs(2, []), Pairs(1, [([1], [2])])
        for value in kinds():
            is_list = type(value) in (list, tuple)
            self.assertIs(is_trial(none, value), is_list and len(value) == 0)
            self.assertIs(is_trial(one, value), is_list and len(value) == 1 and type(value[0]) in (int, Ratio))


class ConductTest(Case):

    def test_arguments_and_answers(self):
        numbers = [1, Ratio(1, 2), -3]
        for call in (turned_sum, rank_at):
            self.answers_alike(call, pairs=RING, numbers=numbers)
            self.answers_alike(call, pairs=Pairs(3, RING.told() * 2), numbers=tuple(numbers * 2))
        self.answers_alike(trial_numbers, pairs=EIGHT)
        self.answers_alike(is_trial, pairs=RING, value=numbers)
        self.answers_alike(is_turned, value=[[0, 1], (-1, Ratio(0))])

    def test_of_the_same_worth(self):
        for numbers in itertools.product((0, 1, -2), repeat=3):
            for call in (turned_sum, rank_at):
                self.assertEqual(call(RING, rationed(numbers)), call(RING, list(numbers)))

    def test_lists_are_not_shared(self):
        for pairs in (RING, EIGHT, Pairs(4, [])):
            found = turned_sum(pairs, [0] * pairs.many)
            self.assertEqual(len({id(row) for row in [found] + found}), pairs.size + 1)

    def test_wrong_values(self):
        pairs = (InvalidPairs, WRONG_PAIRS)
        for call in (turned_sum, rank_at):
            self.refuses(call, {"pairs": RING, "numbers": [0, 0, 0]},
                         {"pairs": pairs, "numbers": (InvalidNumbers, wrong_numbers(3))})
            self.fails(InvalidNumbers, {"value": [0]}, call, Pairs(2, []), [0])
        self.refuses(trial_numbers, {"pairs": RING}, {"pairs": pairs})
        self.refuses(is_trial, {"pairs": RING, "value": None}, {"pairs": pairs})


if __name__ == "__main__":
    unittest.main()
