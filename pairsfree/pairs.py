"""Pairs of rows, kept in sequence."""

from pairsfree.checks import are_rows, check_lot, check_place, check_size, is_list
from pairsfree.errors import InvalidPairs, InvalidRows
from pairsfree.ratios import ratio_row

MOST_PAIRS = 8


class Pairs:
    """From 0 to 8 pairs of rows of one size from 0 to 8, in sequence; they never change."""

    def __init__(self, size, rows):
        check_size(size, MOST_PAIRS)
        if not is_list(rows) or len(rows) > MOST_PAIRS or not all([is_pair(size, pair) for pair in rows]):
            raise InvalidRows(rows)
        self._size = size
        self._rows = [copied_pair(pair) for pair in rows]

    @property
    def size(self):
        """The size of the rows."""
        return self._size

    @property
    def many(self):
        """How many pairs there are."""
        return len(self._rows)

    def pair(self, place):
        """The pair at the position, a tuple of two lists: InvalidPlace."""
        check_place(len(self._rows), place)
        return copied_pair(self._rows[place])

    def told(self):
        """The list of all pairs."""
        return [copied_pair(pair) for pair in self._rows]

    def lot_rows(self, lot):
        """The list of both rows of each pair of the lot, in sequence: InvalidLot."""
        check_lot(len(self._rows), lot)
        return [list(row) for place in lot for row in self._rows[place]]

    def __eq__(self, other):
        return isinstance(other, Pairs) and self._size == other._size and self._rows == other._rows

    def __repr__(self):
        return f"Pairs({self._size}, {self._rows!r})"


def is_pair(size, value):
    """Whether any value is passed as a pair of two rows of the size."""
    return are_rows(size, value, 2) and len(value) == 2


def copied_pair(pair):
    """A new tuple of two new rows of Ratios."""
    first, second = pair
    return ratio_row(first), ratio_row(second)


def check_pairs(pairs):
    """InvalidPairs unless a Pairs."""
    if not isinstance(pairs, Pairs):
        raise InvalidPairs(pairs)
