"""Tables that turn their sign, and those of them that are sums made of pairs with numbers."""

from pairsfree.checks import are_rows, is_list, is_row
from pairsfree.errors import InvalidNumbers, InvalidTable
from pairsfree.lots import greatest, greatest_lots
from pairsfree.pairs import check_pairs
from pairsfree.ratios import Ratio, as_ratio
from pairsfree.steps import rank

MOST_TABLE = 8


def is_turned(value):
    """Whether any value is a turned table."""
    if not is_list(value) or not are_rows(len(value), value, MOST_TABLE):
        return False
    places = range(len(value))
    return all([as_ratio(value[i][j]) == -as_ratio(value[j][i]) for i in places for j in places if i <= j])


def turned_sum(pairs, numbers):
    """The turned sum of the pairs with these numbers, a list of rows: InvalidPairs; InvalidNumbers."""
    check_pairs(pairs)
    # Numbers for the pairs are what a row of as many places has.
    if not is_row(pairs.many, numbers):
        raise InvalidNumbers(numbers)
    told = pairs.told()
    return [[sum_at(told, numbers, p, q) for q in range(pairs.size)] for p in range(pairs.size)]


def rank_at(pairs, numbers):
    """The rank of the turned sum, a COUNT: InvalidPairs; InvalidNumbers."""
    table = turned_sum(pairs, numbers)
    return rank(pairs.size, table)


def trial_numbers(pairs):
    """Numbers at which the rank of the turned sum is twice the greatest number: InvalidPairs."""
    lot = greatest_lots(pairs)[0]
    return [Ratio(1 if place in lot else 0) for place in range(pairs.many)]


def is_trial(pairs, value):
    """Whether any value is numbers at which the rank is twice the greatest number: InvalidPairs."""
    check_pairs(pairs)
    return is_row(pairs.many, value) and rank_at(pairs, value) == 2 * greatest(pairs)


def check_table(table):
    """InvalidTable unless a turned table."""
    if not is_turned(table):
        raise InvalidTable(table)


def sum_at(told, numbers, p, q):
    """The Ratio of the turned sum of the pairs at the row p and the place q."""
    return Ratio.total([number * (a[p] * b[q] - b[p] * a[q]) for number, (a, b) in zip(numbers, told)])
