"""Cores, bounds that are worth just the greatest number, and papers of it: a lot with such a bound."""

from pairsfree.bounds import best_parting, check_parted, is_tight, least_worth, worth
from pairsfree.common import behind_room, common_room
from pairsfree.lots import greatest, greatest_lots, is_free, is_lot
from pairsfree.pairs import check_pairs
from pairsfree.partings import is_parting
from pairsfree.rooms import ahead, is_held_row, is_room
from pairsfree.steps import steps


def core(pairs):
    """A room behind which nothing is shared, and which has a tight parting, told: InvalidPairs; TooMany."""
    check_pairs(pairs)
    check_parted(pairs)
    # Cores are not single, and some have numbers of very many digits.
    return min([grown_core(pairs, True), grown_core(pairs, False)], key=longest_number)


def bound(pairs):
    """A bound whose worth is the greatest number, told: InvalidPairs; TooMany."""
    # Where nothing will do as the room, no numbers need be told at all.
    room = [] if least_worth(pairs, []) == greatest(pairs) else core(pairs)
    return room, best_parting(pairs, room)


def is_bound(pairs, value):
    """Whether any value is a bound whose worth is the greatest number: InvalidPairs."""
    check_pairs(pairs)
    if not isinstance(value, tuple) or len(value) != 2:
        return False
    room, parting = value
    return is_room(pairs.size, room) and is_parting(pairs, parting) and is_tight(pairs, room, parting)


def first_lot(pairs):
    """The first of all greatest free lots: InvalidPairs."""
    return greatest_lots(pairs)[0]


def papers(pairs):
    """A greatest free lot, and the room and the parting that show that it is one: InvalidPairs; TooMany."""
    room, parting = bound(pairs)
    return first_lot(pairs), room, parting


def is_papers(pairs, value):
    """Whether any value is a free lot with a bound that is worth as many positions as it has: InvalidPairs."""
    check_pairs(pairs)
    return is_lot_with_bound(pairs, pairs, value) and spare_worth(pairs, value) == 0


def grown_core(pairs, own_first):
    """A core that grows by a shared row at a time, by one of the pairs' own rows first or by those of the steps."""
    room = []
    row = shared_row(pairs, own_first)
    while row is not None:
        room = steps(pairs.size, room + ahead(pairs.size, room, [row]))
        row = shared_row(behind_room(pairs, room), own_first)
    return room


def shared_row(pairs, own_first):
    """A row of the shared room that is not all noughts; None if nothing is shared."""
    common = common_room(pairs)
    if not common:
        return None
    rows = pairs.lot_rows(list(range(pairs.many)))
    own = [row for row in rows if own_first and is_held_row(pairs.size, common, row)]
    return own[0] if own else common[0]


def longest_number(room):
    """How many binary digits the longest number of the room has above and below the stroke; 0 for nothing."""
    return max([number.top.bit_length() + number.bottom.bit_length() for row in room for number in row], default=0)


def is_lot_with_bound(pairs, bounded, value):
    """Whether any value is a free lot of the first pairs with a room and a parting of the second ones, in a tuple."""
    if not isinstance(value, tuple) or len(value) != 3:
        return False
    lot, room, parting = value
    if not is_lot(pairs, lot) or not is_free(pairs, lot):
        return False
    return is_room(bounded.size, room) and is_parting(bounded, parting)


def spare_worth(bounded, value):
    """By how much the worth of the bound is greater than how many positions the lot has."""
    lot, room, parting = value
    return worth(bounded, room, parting) - len(lot)
