"""Steps of rows, their ranks and their zeros."""

from math import gcd, lcm

from pairsfree.checks import check_rows, check_size
from pairsfree.ratios import Ratio, as_ratio, ratio_row

MOST_SIZE = 16


def steps(size, rows):
    """The steps of the rows, a list of rows: InvalidSize; InvalidRows."""
    check_size(size, MOST_SIZE)
    check_rows(size, rows)
    return [with_head_one(row) for row in whole_steps(size, rows)]


def rank(size, rows):
    """How many steps the rows have, a COUNT: InvalidSize; InvalidRows."""
    check_size(size, MOST_SIZE)
    check_rows(size, rows)
    return len(whole_steps(size, rows))


def zeros(size, rows):
    """The steps of the zeros of the rows: InvalidSize; InvalidRows."""
    room = steps(size, rows)
    return steps(size, [zero_row(size, room, place) for place in places_without_head(size, room)])


def head_place(row):
    """The place of the first number other than 0 in a row that has one."""
    return [place for place, number in enumerate(row) if as_ratio(number).sign != 0][0]


def head_places(room):
    """The places of the heads of a room's rows, in sequence."""
    return [head_place(row) for row in room]


def places_without_head(size, room):
    """The rising list of the places at which no row of the room has its head."""
    heads = head_places(room)
    return [place for place in range(size) if place not in heads]


def idle_row(size, place):
    """The row with 1 at the place and 0 else."""
    return [Ratio(1 if at == place else 0) for at in range(size)]


def zero_row(size, room, place):
    """The zero of the room with 1 at the place, which is without a head, and 0 at all other such places."""
    row = idle_row(size, place)
    for line, head in zip(room, head_places(room)):
        row[head] = -line[place]
    return row


def whole_steps(size, rows):
    """The steps, each times some INTEGER, so that all numbers are INTEGERS: far quicker to reckon with."""
    done = []
    left = [whole_row(row) for row in rows]
    for place in range(size):
        heads = [row for row in left if row[place] != 0]
        if heads:
            head = heads[0]
            done = [cleared_row(row, head, place) for row in done] + [head]
            cleared = [cleared_row(row, head, place) for row in left]
            left = [row for row in cleared if any(row)]
    return done


def whole_row(row):
    """The least multiple of the row that has INTEGERS alone, without a common divisor."""
    numbers = ratio_row(row)
    bottom = 1
    for number in numbers:
        bottom = lcm(bottom, number.bottom)
    return lowest([number.top * (bottom // number.bottom) for number in numbers])


def lowest(row):
    """The row of INTEGERS without its common divisor, lest the numbers grow."""
    common = 0
    for number in row:
        common = gcd(common, number)
    if common < 2:
        return row
    return [number // common for number in row]


def cleared_row(row, head, place):
    """A multiple of the row, with a multiple of the head added, so that it has 0 at the place."""
    if row[place] == 0:
        return row
    return lowest([number * head[place] - taken * row[place] for number, taken in zip(row, head)])


def with_head_one(row):
    """The row of INTEGERS divided by its head."""
    head = row[head_place(row)]
    return [Ratio(number, head) for number in row]
