"""Threes of places: which of them have no ring, and whether they hold all places together."""

from pairsfree.checks import check_size, is_list, is_rising_tuple
from pairsfree.errors import InvalidThrees
from pairsfree.lots import greatest, greatest_lots, is_free
from pairsfree.pairs import Pairs
from pairsfree.steps import idle_row

MOST_PLACES = 8
MOST_THREES = 8


def three_pairs(size, threes):
    """The Pairs of the threes, of this size: InvalidSize; InvalidThrees."""
    check_threes(size, threes)
    return Pairs(size, [(apart_row(size, i, j), apart_row(size, i, k)) for i, j, k in threes])


def has_ring(size, threes):
    """Whether the threes have a ring: InvalidSize; InvalidThrees."""
    pairs = three_pairs(size, threes)
    return not is_free(pairs, list(range(pairs.many)))


def ringless(size, threes):
    """A greatest ringless lot, a list of positions of threes: InvalidSize; InvalidThrees."""
    return greatest_lots(three_pairs(size, threes))[0]


def ringless_number(size, threes):
    """How many positions the greatest ringless lots have, a COUNT: InvalidSize; InvalidThrees."""
    return greatest(three_pairs(size, threes))


def spans(size, threes):
    """Whether all places hang together by some ringless lot of the threes: InvalidSize; InvalidThrees."""
    # Each three without a ring makes two pieces less; so from single places one piece is left only in the end.
    pieces_less = 2 * ringless_number(size, threes)
    return size == 0 or pieces_less == size - 1


def check_threes(size, threes):
    """InvalidSize unless a COUNT to 8; InvalidThrees unless threes of the size."""
    check_size(size, MOST_PLACES)
    if not is_list(threes) or len(threes) > MOST_THREES:
        raise InvalidThrees(threes)
    if not all([is_rising_tuple(size, 3, three) for three in threes]):
        raise InvalidThrees(threes)


def apart_row(size, one, other):
    """The row with 1 at the one place and -1 at the other, 0 else."""
    return [number - taken for number, taken in zip(idle_row(size, one), idle_row(size, other))]
