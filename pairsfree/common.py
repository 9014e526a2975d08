"""The shared room of pairs, and the pairs whose rows these are behind a row or a room."""

from pairsfree.checks import check_row
from pairsfree.errors import NoughtRow
from pairsfree.lots import greatest_lots
from pairsfree.pairs import Pairs, check_pairs
from pairsfree.rooms import check_room, is_held, row_behind
from pairsfree.steps import steps, zeros


def common_room(pairs):
    """The room of all rows that the rooms of the rows of all greatest free lots hold: InvalidPairs."""
    lots = greatest_lots(pairs)
    # A row is in all of these rooms just if its sums of products are 0 with the zeros of each of them.
    found = []
    for lot in lots:
        found = steps(pairs.size, found + zeros(pairs.size, pairs.lot_rows(lot)))
    return zeros(pairs.size, found)


def is_common(pairs, row):
    """Whether the shared room holds the row: InvalidPairs; InvalidRow."""
    check_pairs(pairs)
    return is_held(pairs.size, common_room(pairs), row)


def behind_row(pairs, row):
    """The Pairs whose rows are these behind the room of the row: InvalidPairs; InvalidRow; NoughtRow."""
    check_pairs(pairs)
    check_row(pairs.size, row)
    room = steps(pairs.size, [row])
    if not room:
        raise NoughtRow()
    return behind_room(pairs, room)


def behind_room(pairs, room):
    """The Pairs whose rows are these behind the room: InvalidPairs; InvalidRoom."""
    check_pairs(pairs)
    check_room(pairs.size, room)
    rows = [[row_behind(pairs.size, room, row) for row in pair] for pair in pairs.told()]
    return Pairs(pairs.size - len(room), rows)
