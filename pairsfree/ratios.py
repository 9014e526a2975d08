"""Ratios, the exact fractions of the package, and what counts as a NUMBER."""

from math import gcd

from pairsfree.basics import is_integer
from pairsfree.errors import DividedByZero, InvalidNumber


class Ratio:
    """A fraction in lowest terms, its bottom at least 1; it never changes."""

    def __init__(self, top, bottom=1):
        if not is_integer(top):
            raise InvalidNumber(top)
        if not is_integer(bottom) or bottom == 0:
            raise InvalidNumber(bottom)
        common = gcd(top, bottom)
        # Dividing by a negative number brings the sign from the bottom to the top.
        divisor = common if bottom > 0 else -common
        self._top = top // divisor
        self._bottom = bottom // divisor

    @property
    def top(self):
        """The INTEGER above the stroke; it has the sign."""
        return self._top

    @property
    def bottom(self):
        """The INTEGER below the stroke, at least 1."""
        return self._bottom

    @property
    def sign(self):
        """-1 below nought, 0 for nought, 1 above it."""
        if self._top == 0:
            return 0
        return 1 if self._top > 0 else -1

    @property
    def is_whole(self):
        """Whether the bottom is 1."""
        return self._bottom == 1

    def __add__(self, other):
        number = as_ratio(other)
        return Ratio(self._top * number.bottom + number.top * self._bottom, self._bottom * number.bottom)

    def __radd__(self, other):
        return as_ratio(other) + self

    def __sub__(self, other):
        return self + -as_ratio(other)

    def __rsub__(self, other):
        return as_ratio(other) + -self

    def __mul__(self, other):
        number = as_ratio(other)
        return Ratio(self._top * number.top, self._bottom * number.bottom)

    def __rmul__(self, other):
        return as_ratio(other) * self

    def __neg__(self):
        return Ratio(-self._top, self._bottom)

    def over(self, other):
        """Divided by the other NUMBER: InvalidNumber; DividedByZero."""
        number = as_ratio(other)
        if number.top == 0:
            raise DividedByZero()
        return Ratio(self._top * number.bottom, self._bottom * number.top)

    def unsigned(self):
        """The Ratio without its sign."""
        return Ratio(abs(self._top), self._bottom)

    def is_below(self, other):
        """Whether it is less than the other NUMBER: InvalidNumber."""
        number = as_ratio(other)
        return self._top * number.bottom < number.top * self._bottom

    def is_at_most(self, other):
        """Whether it is not greater than the other NUMBER: InvalidNumber."""
        number = as_ratio(other)
        return self._top * number.bottom <= number.top * self._bottom

    def __eq__(self, other):
        return isinstance(other, Ratio) and self._top == other._top and self._bottom == other._bottom

    @classmethod
    def total(cls, numbers):
        """The sum of a list of NUMBERS: InvalidNumber with what is no list, or with the first that is none."""
        if not isinstance(numbers, (list, tuple)):
            raise InvalidNumber(numbers)
        result = cls(0)
        for number in numbers:
            result = result + number
        return result

    def __str__(self):
        if self._bottom == 1:
            return str(self._top)
        return f"{self._top}/{self._bottom}"

    def __repr__(self):
        return f"Ratio({self._top}, {self._bottom})"


def is_number(value):
    """Whether any value is a NUMBER: an INTEGER or a Ratio."""
    return is_integer(value) or isinstance(value, Ratio)


def as_ratio(number):
    """The Ratio of the worth of a NUMBER: InvalidNumber with any other value."""
    if isinstance(number, Ratio):
        return number
    return Ratio(number)


def ratio_row(row):
    """A new row of the same worth, all of Ratios."""
    return [as_ratio(number) for number in row]
