"""Papers that a position is in all greatest lots, is spared by some, is in some, is in none; None if it is not so."""

from pairsfree.bounds import check_parted
from pairsfree.checks import check_place
from pairsfree.common import behind_room
from pairsfree.engine import bound, first_lot, is_lot_with_bound, is_papers, spare_worth
from pairsfree.lots import greatest_lots, is_free
from pairsfree.pairs import check_pairs
from pairsfree.steps import steps
from pairsfree.which import falls, in_some, without


def all_paper(pairs, place):
    """A paper that the position is in all greatest lots: InvalidPairs; InvalidPlace; TooMany."""
    check_shown(pairs, place)
    if not falls(pairs, place):
        return None
    return with_bound(first_lot(pairs), without(pairs, place))


def spared_paper(pairs, place):
    """A paper that some greatest lot spares the position: InvalidPairs; InvalidPlace; TooMany."""
    check_shown(pairs, place)
    lots = [lot for lot in greatest_lots(pairs) if place not in lot]
    return with_bound(lots[0], pairs) if lots else None


def some_paper(pairs, place):
    """A paper that the position is in some greatest lot: InvalidPairs; InvalidPlace; TooMany."""
    check_shown(pairs, place)
    lots = [lot for lot in greatest_lots(pairs) if place in lot]
    return with_bound(lots[0], pairs) if lots else None


def none_paper(pairs, place):
    """A paper that the position is in no greatest lot: InvalidPairs; InvalidPlace; TooMany."""
    check_shown(pairs, place)
    if not is_free(pairs, [place]):
        return ()
    if place in in_some(pairs):
        return None
    return with_bound(first_lot(pairs), behind_pair(pairs, place))


def is_all_paper(pairs, place, value):
    """Whether any value is a paper that the position is in all greatest lots: InvalidPairs; InvalidPlace."""
    rest = without(pairs, place)
    return is_lot_with_bound(pairs, rest, value) and spare_worth(rest, value) < 0


def is_spared_paper(pairs, place, value):
    """Whether any value is a paper that some greatest lot spares the position: InvalidPairs; InvalidPlace."""
    check_position(pairs, place)
    return is_papers(pairs, value) and place not in value[0]


def is_some_paper(pairs, place, value):
    """Whether any value is a paper that the position is in some greatest lot: InvalidPairs; InvalidPlace."""
    check_position(pairs, place)
    return is_papers(pairs, value) and place in value[0]


def is_none_paper(pairs, place, value):
    """Whether any value is a paper that the position is in no greatest lot: InvalidPairs; InvalidPlace."""
    check_position(pairs, place)
    if not is_free(pairs, [place]):
        return isinstance(value, tuple) and len(value) == 0
    rest = behind_pair(pairs, place)
    # The pair itself counts for one: so all free lots with it have at most one position more than the bound's worth.
    return is_lot_with_bound(pairs, rest, value) and spare_worth(rest, value) < -1


def check_position(pairs, place):
    """InvalidPairs unless a Pairs; InvalidPlace unless a position of them."""
    check_pairs(pairs)
    check_place(pairs.many, place)


def check_shown(pairs, place):
    """InvalidPairs; InvalidPlace; TooMany of more pairs than a bound is looked for."""
    check_position(pairs, place)
    check_parted(pairs)


def behind_pair(pairs, place):
    """The Pairs behind the room that the two rows of the pair make."""
    return behind_room(pairs, steps(pairs.size, pairs.lot_rows([place])))


def with_bound(lot, bounded):
    """The lot with a bound of the pairs that is worth their greatest number."""
    room, parting = bound(bounded)
    return lot, room, parting
