"""Bounds of pairs: a room with a parting, what it is worth, and the least worth for a room."""

from pairsfree.errors import TooMany
from pairsfree.lots import all_lots, greatest
from pairsfree.pairs import check_pairs
from pairsfree.partings import all_partings, told_parting
from pairsfree.rooms import check_room
from pairsfree.steps import rank

MOST_PARTED = 7


def part_ranks(pairs, room, parting):
    """The ranks of the told parting's parts behind the room: InvalidPairs; InvalidRoom; InvalidParting."""
    check_pairs(pairs)
    check_room(pairs.size, room)
    return [part_rank(pairs, room, part) for part in told_parting(pairs, parting)]


def worth(pairs, room, parting):
    """The worth of the bound, a COUNT: InvalidPairs; InvalidRoom; InvalidParting."""
    halves = [many // 2 for many in part_ranks(pairs, room, parting)]
    return len(room) + sum(halves)


def least_worth(pairs, room):
    """The least worth of all bounds with the room, a COUNT: InvalidPairs; InvalidRoom; TooMany."""
    return worth(pairs, room, best_parting(pairs, room))


def best_parting(pairs, room):
    """A told parting that has the least worth with the room: InvalidPairs; InvalidRoom; TooMany."""
    check_pairs(pairs)
    check_room(pairs.size, room)
    check_parted(pairs)
    halves = half_ranks(pairs, room)
    found = all_partings(pairs.many)
    worths = [sum([halves[tuple(part)] for part in parting]) for parting in found]
    return found[worths.index(min(worths))]


def is_tight(pairs, room, parting):
    """Whether the worth of the bound is the greatest number: InvalidPairs; InvalidRoom; InvalidParting."""
    return worth(pairs, room, parting) == greatest(pairs)


def check_parted(pairs):
    """TooMany if there are more pairs than all partings are looked at for."""
    if pairs.many > MOST_PARTED:
        raise TooMany("pairs", MOST_PARTED)


def part_rank(pairs, room, part):
    """The rank that the rows of the part's pairs have behind the room."""
    return rank(pairs.size, list(room) + pairs.lot_rows(part)) - len(room)


def half_ranks(pairs, room):
    """Half of the rank behind the room, rounded down, of each part that there can be, told as a tuple."""
    return {tuple(part): part_rank(pairs, room, part) // 2 for part in all_lots(pairs.many)}
