"""Frames of points and bars, their tables, and the pairs of columns that their points have there."""

from pairsfree.checks import is_list, is_rising_tuple, is_row
from pairsfree.errors import InvalidBars, InvalidFrame, InvalidPoints
from pairsfree.pairs import Pairs
from pairsfree.ratios import Ratio, ratio_row

MOST_POINTS = 5
MOST_BARS = 8


class Frame:
    """From 0 to 5 points and from 0 to 8 bars, each of two of them, in sequence; they never change."""

    def __init__(self, points, bars):
        if not is_list(points) or len(points) > MOST_POINTS or not all([is_point(point) for point in points]):
            raise InvalidPoints(points)
        if not is_list(bars) or len(bars) > MOST_BARS:
            raise InvalidBars(bars)
        if not all([is_rising_tuple(len(points), 2, bar) for bar in bars]):
            raise InvalidBars(bars)
        self._points = [tuple(ratio_row(point)) for point in points]
        self._bars = [(i, j) for i, j in bars]

    @property
    def many(self):
        """How many points there are."""
        return len(self._points)

    def points(self):
        """The list of all points, tuples of two Ratios."""
        return list(self._points)

    def bars(self):
        """The list of all bars, tuples of two positions of points."""
        return list(self._bars)

    def __eq__(self, other):
        return isinstance(other, Frame) and self._points == other._points and self._bars == other._bars

    def __repr__(self):
        return f"Frame({self._points!r}, {self._bars!r})"


def bar_table(frame):
    """The table of the frame, a row of Ratios for each bar: InvalidFrame."""
    check_frame(frame)
    return [bar_row(frame.points(), i, j) for i, j in frame.bars()]


def frame_pairs(frame):
    """The Pairs of both columns of each point in the table: InvalidFrame."""
    table = bar_table(frame)
    places = [2 * point for point in range(frame.many)]
    return Pairs(len(table), [(column(table, place), column(table, place + 1)) for place in places])


def check_frame(frame):
    """InvalidFrame unless a Frame."""
    if not isinstance(frame, Frame):
        raise InvalidFrame(frame)


def is_point(value):
    """Whether any value is a tuple of two NUMBERS."""
    return isinstance(value, tuple) and is_row(2, value)


def bar_row(points, i, j):
    """The row of the table for the bar of these two points: both differences, turned at the second point."""
    row = [Ratio(0)] * (2 * len(points))
    for axis in (0, 1):
        difference = points[i][axis] - points[j][axis]
        row[2 * i + axis] = difference
        row[2 * j + axis] = -difference
    return row


def column(table, place):
    """The numbers that the rows of the table have at the place."""
    return [row[place] for row in table]
