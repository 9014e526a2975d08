"""Lots of pairs: which are free, which are greatest, and what one can hand to another."""

from pairsfree.checks import check_lot, check_many, is_rising
from pairsfree.errors import NotFree
from pairsfree.pairs import MOST_PAIRS, check_pairs
from pairsfree.steps import rank


def is_lot(pairs, value):
    """Whether any value is a lot of the pairs: InvalidPairs."""
    check_pairs(pairs)
    return is_rising(pairs.many, value)


def lot_rank(pairs, lot):
    """The rank of the lot's rows, a COUNT: InvalidPairs; InvalidLot."""
    check_pairs(pairs)
    return rank(pairs.size, pairs.lot_rows(lot))


def is_free(pairs, lot):
    """Whether the lot's rows are free: InvalidPairs; InvalidLot."""
    return lot_rank(pairs, lot) == 2 * len(lot)


def free_lots(pairs, many):
    """The sorted list of all free lots with so many positions: InvalidPairs; InvalidMany."""
    check_pairs(pairs)
    check_many(many, MOST_PAIRS)
    lots = [[]]
    for _ in range(many):
        lots = longer_lots(pairs, lots)
    return lots


def greatest(pairs):
    """The greatest number of positions of a free lot, a COUNT: InvalidPairs."""
    return len(greatest_lots(pairs)[0])


def greatest_lots(pairs):
    """The sorted list of all greatest free lots: InvalidPairs."""
    check_pairs(pairs)
    lots = [[]]
    longer = longer_lots(pairs, lots)
    while longer:
        lots = longer
        longer = longer_lots(pairs, lots)
    return lots


def handed(pairs, lot, other):
    """The rising list of the positions that the second lot can hand to the first: InvalidPairs; InvalidLot; NotFree."""
    check_pairs(pairs)
    check_lot(pairs.many, lot)
    check_lot(pairs.many, other)
    if not is_free(pairs, lot) or not is_free(pairs, other):
        raise NotFree()
    return [place for place in other if place not in lot and is_free(pairs, sorted([*lot, place]))]


def all_lots(many):
    """The list of all rising lists of unlike positions of so many."""
    found = [[]]
    for place in range(many):
        found = found + [[*lot, place] for lot in found]
    return found


def longer_lots(pairs, lots):
    """The sorted list of the free lots with one position more: these are all free lots of one length, sorted."""
    # Each lot within a free lot is free, so none is missed if each is made longer at its end alone.
    longer = [[*lot, place] for lot in lots for place in range(first_behind(lot), pairs.many)]
    return [lot for lot in longer if is_free(pairs, lot)]


def first_behind(lot):
    """The least position that is greater than all of the lot."""
    return lot[-1] + 1 if lot else 0
