"""Which positions are in all greatest lots, in some, in none; pairs without a position, or with a pair put in."""

from pairsfree.checks import check_place
from pairsfree.errors import InvalidPair, TooMany
from pairsfree.lots import greatest, greatest_lots
from pairsfree.pairs import MOST_PAIRS, Pairs, check_pairs, is_pair


def in_all(pairs):
    """The rising list of the positions that all greatest free lots have: InvalidPairs."""
    lots = greatest_lots(pairs)
    return [place for place in range(pairs.many) if all([place in lot for lot in lots])]


def in_some(pairs):
    """The rising list of the positions that some greatest free lot has: InvalidPairs."""
    lots = greatest_lots(pairs)
    return [place for place in range(pairs.many) if any([place in lot for lot in lots])]


def in_none(pairs):
    """The rising list of the positions that no greatest free lot has: InvalidPairs."""
    found = in_some(pairs)
    return [place for place in range(pairs.many) if place not in found]


def falls(pairs, place):
    """Whether the greatest number is less without the position: InvalidPairs; InvalidPlace."""
    return greatest(without(pairs, place)) < greatest(pairs)


def without(pairs, place):
    """The Pairs of all other pairs, in sequence: InvalidPairs; InvalidPlace."""
    check_pairs(pairs)
    check_place(pairs.many, place)
    return Pairs(pairs.size, [pair for at, pair in enumerate(pairs.told()) if at != place])


def put_in(pairs, pair):
    """The Pairs with the pair behind all others: InvalidPairs; InvalidPair; TooMany."""
    check_pairs(pairs)
    if not is_pair(pairs.size, pair):
        raise InvalidPair(pair)
    if pairs.many == MOST_PAIRS:
        raise TooMany("pairs", MOST_PAIRS)
    return Pairs(pairs.size, pairs.told() + [pair])
