"""Rooms: two of them joined and shared, what they hold, and rows behind, ahead of and beside them."""

from pairsfree.checks import MOST_ROWS, are_rows, check_row, check_rows, check_size
from pairsfree.errors import InvalidRoom, InvalidRows
from pairsfree.ratios import Ratio, as_ratio, ratio_row
from pairsfree.steps import MOST_SIZE, head_places, idle_row, places_without_head, steps, zeros


def is_room(size, value):
    """Whether any value is a room of the size: InvalidSize."""
    check_size(size, MOST_SIZE)
    return are_rows(size, value, size) and steps(size, value) == [ratio_row(row) for row in value]


def check_room(size, room):
    """InvalidSize unless a size; InvalidRoom unless a room of it."""
    if not is_room(size, room):
        raise InvalidRoom(room)


def joined(size, room, other):
    """The room of all rows that are made of rows of both: InvalidSize; InvalidRoom."""
    check_two_rooms(size, room, other)
    return steps(size, [*room, *other])


def shared(size, room, other):
    """The room of all rows that both rooms hold: InvalidSize; InvalidRoom."""
    check_two_rooms(size, room, other)
    # A row is in both just if its sums of products are 0 with the zeros of the one and with those of the other.
    return zeros(size, zeros(size, room) + zeros(size, other))


def is_held(size, room, row):
    """Whether the room holds the row: InvalidSize; InvalidRoom; InvalidRow."""
    check_room(size, room)
    check_row(size, row)
    return all([number.sign == 0 for number in row_behind(size, room, row)])


def behind(size, room, rows):
    """The list of the rows behind the room: InvalidSize; InvalidRoom; InvalidRows."""
    check_room(size, room)
    check_rows(size, rows)
    return [row_behind(size, room, row) for row in rows]


def ahead(size, room, rows):
    """The list of the rows put ahead of the room, all of the size behind it: InvalidSize; InvalidRoom; InvalidRows."""
    check_room(size, room)
    if not are_rows(size - len(room), rows, MOST_ROWS):
        raise InvalidRows(rows)
    return [row_ahead(size, room, row) for row in rows]


def beside(size, room):
    """The list of the idle rows beside the room, by rising places: InvalidSize; InvalidRoom."""
    check_room(size, room)
    return [idle_row(size, place) for place in places_without_head(size, room)]


def is_held_row(size, room, row):
    """Whether the room holds the row, and it is not all noughts: InvalidSize; InvalidRoom; InvalidRow."""
    return is_held(size, room, row) and any([as_ratio(number).sign != 0 for number in row])


def check_two_rooms(size, room, other):
    """InvalidSize unless a size; InvalidRoom, of the first one first, unless both are rooms of it."""
    check_room(size, room)
    check_room(size, other)


def row_behind(size, room, row):
    """The row behind the room, of the lesser size."""
    heads = head_places(room)
    # Each row of a room has 0 at the heads of the others: so the numbers at the heads tell what is to be taken off.
    times = [row[head] for head in heads]
    return [row[place] - made_number(times, room, place) for place in places_without_head(size, room)]


def made_number(times, rows, place):
    """The Ratio at the place of the sum of these multiples of the rows."""
    return Ratio.total([number * row[place] for number, row in zip(times, rows)])


def row_ahead(size, room, row):
    """The row, of the lesser size, with 0 put in at the heads of the room."""
    whole = [Ratio(0)] * size
    for place, number in zip(places_without_head(size, room), row):
        whole[place] = as_ratio(number)
    return whole
