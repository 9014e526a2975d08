"""What rows and their sizes must be like, and the errors of those that are not."""

from pairsfree.basics import is_count
from pairsfree.errors import InvalidRow, InvalidRows, InvalidSize
from pairsfree.ratios import is_number

MOST_ROWS = 40


def is_list(value):
    """Whether any value is passed as a list, so that a tuple is one as well."""
    return isinstance(value, (list, tuple))


def is_row(size, value):
    """Whether any value is a row of the size."""
    return is_list(value) and len(value) == size and all([is_number(number) for number in value])


def are_rows(size, value, most):
    """Whether any value is a list of rows of the size, at most so many."""
    return is_list(value) and len(value) <= most and all([is_row(size, row) for row in value])


def check_size(size, most):
    """InvalidSize unless a COUNT, at most so great."""
    if not is_count(size) or size > most:
        raise InvalidSize(size)


def check_row(size, row):
    """InvalidRow unless a row of the size."""
    if not is_row(size, row):
        raise InvalidRow(row)


def check_rows(size, rows):
    """InvalidRows unless a list of 0 to 40 rows of the size."""
    if not are_rows(size, rows, MOST_ROWS):
        raise InvalidRows(rows)
