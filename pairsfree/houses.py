"""Two houses: lots of positions that are free in both, and covers that show that none has more of them."""

from pairsfree.checks import are_rows, check_places, is_rising
from pairsfree.errors import InvalidRows
from pairsfree.lots import all_lots, greatest
from pairsfree.pairs import Pairs
from pairsfree.ratios import Ratio, ratio_row
from pairsfree.steps import rank

MOST_IN_HOUSE = 8
MOST_HOUSE_SIZE = 4


def house_pairs(first, second):
    """The Pairs of a row of the one house and one of the other at each position: InvalidRows."""
    check_houses(first, second)
    left, right = house_size(first), house_size(second)
    rows = [(ratio_row(a) + noughts(right), noughts(left) + ratio_row(b)) for a, b in zip(first, second)]
    return Pairs(left + right, rows)


def both_free(first, second):
    """The greatest number of positions of a lot that is free in both, a COUNT: InvalidRows."""
    return greatest(house_pairs(first, second))


def cover_worth(first, second, places):
    """The rank of first's rows at the positions and of second's rows at all others: InvalidRows; InvalidPlaces."""
    check_houses(first, second)
    check_places(len(first), places)
    others = [place for place in range(len(first)) if place not in places]
    return rank_in_house(first, places) + rank_in_house(second, others)


def cover(first, second):
    """A cover, a rising list of positions: InvalidRows."""
    check_houses(first, second)
    found = all_lots(len(first))
    worths = [cover_worth(first, second, places) for places in found]
    # No worth is below the greatest number, and some is just that.
    return found[worths.index(min(worths))]


def is_cover(first, second, value):
    """Whether any value is a cover, a rising list of positions: InvalidRows."""
    number = both_free(first, second)
    return is_rising(len(first), value) and cover_worth(first, second, value) == number


def is_house(value):
    """Whether any value is a list of 0 to 8 rows, all of one size from 0 to 4."""
    return any([are_rows(size, value, MOST_IN_HOUSE) for size in range(MOST_HOUSE_SIZE + 1)])


def check_houses(first, second):
    """InvalidRows, of the first house first, unless both are lists of equally many rows."""
    if not is_house(first):
        raise InvalidRows(first)
    if not is_house(second) or len(second) != len(first):
        raise InvalidRows(second)


def house_size(house):
    """The size of the rows of the house, 0 if it has none."""
    return len(house[0]) if house else 0


def noughts(size):
    """The row of so many noughts."""
    return [Ratio(0)] * size


def rank_in_house(house, places):
    """The rank of the rows of the house at these positions."""
    return rank(house_size(house), [house[place] for place in places])
