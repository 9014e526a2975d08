"""What values that are passed must be like, and the errors of those that are not."""

from pairsfree.basics import is_count
from pairsfree.errors import (
    InvalidLot, InvalidMany, InvalidParting, InvalidPlace, InvalidPlaces, InvalidRow, InvalidRows, InvalidSize)
from pairsfree.ratios import is_number

MOST_ROWS = 40


def is_list(value):
    """Whether any value is passed as a list, so that a tuple is one as well."""
    return isinstance(value, (list, tuple))


def is_row(size, value):
    """Whether any value is a row of the size."""
    return is_list(value) and len(value) == size and all([is_number(number) for number in value])


def are_rows(size, value, most):
    """Whether any value is a list of rows of the size, at most so many."""
    return is_list(value) and len(value) <= most and all([is_row(size, row) for row in value])


def is_position(many, value):
    """Whether any value is a position of so many things."""
    return is_count(value) and value < many


def is_positions(many, value):
    """Whether any value is a list of positions of so many things, in whatever sequence."""
    return is_list(value) and all([is_position(many, place) for place in value])


def is_rising(many, value):
    """Whether any value is a list of unlike positions of so many things, rising: so a lot is."""
    return is_positions(many, value) and list(value) == sorted(set(value))


def is_rising_tuple(many, length, value):
    """Whether any value is a tuple of so many unlike positions of so many things, rising: so a tie is."""
    return isinstance(value, tuple) and len(value) == length and is_rising(many, value)


def is_split(many, value):
    """Whether any value is a list of parts, none empty, that have each of so many positions once: so a parting is."""
    if not is_list(value) or not all([is_positions(many, part) and len(part) > 0 for part in value]):
        return False
    return sorted([place for part in value for place in part]) == list(range(many))


def check_size(size, most):
    """InvalidSize unless a COUNT, at most so great."""
    if not is_count(size) or size > most:
        raise InvalidSize(size)


def check_row(size, row):
    """InvalidRow unless a row of the size."""
    if not is_row(size, row):
        raise InvalidRow(row)


def check_rows(size, rows):
    """InvalidRows unless a list of 0 to 40 rows of the size."""
    if not are_rows(size, rows, MOST_ROWS):
        raise InvalidRows(rows)


def check_many(many, most):
    """InvalidMany unless a COUNT, at most so great."""
    if not is_count(many) or many > most:
        raise InvalidMany(many)


def check_place(many, place):
    """InvalidPlace unless a position of so many pairs."""
    if not is_position(many, place):
        raise InvalidPlace(place)


def check_places(many, places):
    """InvalidPlaces unless a list of unlike places out of so many, rising."""
    if not is_rising(many, places):
        raise InvalidPlaces(places)


def check_lot(many, lot):
    """InvalidLot unless a lot of so many pairs."""
    if not is_rising(many, lot):
        raise InvalidLot(lot)


def check_parting(many, parting):
    """InvalidParting unless a parting of so many pairs."""
    if not is_split(many, parting):
        raise InvalidParting(parting)
