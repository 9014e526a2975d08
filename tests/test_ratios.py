"""NUMBERS [2] and Ratios [11]."""

import unittest
from fractions import Fraction

from pairsfree.errors import DividedByZero, InvalidNumber
from pairsfree.ratios import Ratio, is_number
from tests.helper import Case, kinds

WORTHS = [(top, bottom) for top in (-7, -2, -1, 0, 1, 3, 4) for bottom in (-6, -1, 1, 2, 3)]


def others():
    """Values of every kind that are no NUMBERS."""
    return [value for value in kinds() if type(value) is not int and not isinstance(value, Ratio)]


def fraction(ratio):
    return Fraction(ratio.top, ratio.bottom)


class NumberTest(Case):

    def test_is_number(self):
        for value in (0, -3, 10 ** 40, Ratio(0), Ratio(1, 2)):
            self.assertIs(is_number(value), True)
        for value in others():
            self.assertIs(is_number(value=value), False)

    def test_bools_are_none(self):
        self.assertEqual([is_number(True), is_number(False), is_number(Ratio)], [False] * 3)


class RatioTest(Case):

    def test_lowest_terms(self):
        for top, bottom in WORTHS:
            ratio, wanted = Ratio(top, bottom), Fraction(top, bottom)
            self.assertEqual((ratio.top, ratio.bottom), (wanted.numerator, wanted.denominator))
            self.assertEqual([type(ratio.top), type(ratio.bottom)], [int, int])
        self.assertEqual(repr(Ratio(0, -5)), "Ratio(0, 1)")

    def test_default_bottom_and_names(self):
        self.assertEqual(repr([Ratio(4), Ratio(top=4), Ratio(bottom=6, top=4), Ratio(4, bottom=-6)]),
                         "[Ratio(4, 1), Ratio(4, 1), Ratio(2, 3), Ratio(-2, 3)]")

    def test_exact(self):
        great = 10 ** 900 + 1
        self.assertEqual(Ratio(1, great) + Ratio(great), Ratio(great * great + 1, great))
        self.assertEqual(Ratio(great * 3, great * 6), Ratio(1, 2))

    def test_wrong_parts(self):
        for value in others() + [Ratio(1), Ratio(0)]:
            self.fails(InvalidNumber, {"value": value}, Ratio, value)
            self.fails(InvalidNumber, {"value": value}, Ratio, value, 2)
            self.fails(InvalidNumber, {"value": value}, Ratio, 1, value)
            self.fails(InvalidNumber, {"value": value}, Ratio, value, 0)
        self.fails(InvalidNumber, {"value": 0}, Ratio, 3, 0)
        self.fails(InvalidNumber, {"value": 0}, Ratio, 0, 0)
        self.fails(InvalidNumber, {"value": True}, Ratio, top=True, bottom=False)
        self.fails(InvalidNumber, {"value": False}, Ratio, 3, False)

    def test_sign(self):
        self.assertEqual([Ratio(-1, 2).sign, Ratio(0).sign, Ratio(3, 2).sign, Ratio(1, -2).sign], [-1, 0, 1, -1])
        self.assertEqual([Ratio(1).sign, Ratio(-1).sign, Ratio(1, 999999).sign], [1, -1, 1])
        self.assertEqual({type(Ratio(top).sign) for top in (-2, 0, 2)}, {int})

    def test_is_whole(self):
        for top, bottom in WORTHS:
            self.assertIs(Ratio(top, bottom).is_whole, top % bottom == 0)

    def test_never_changes(self):
        ratio = Ratio(1, 2)
        for name in ("top", "bottom", "sign", "is_whole"):
            with self.assertRaises(AttributeError):
                setattr(ratio, name, 3)
        kept = ratio
        kept += 1
        self.assertEqual(ratio, Ratio(1, 2))

    def test_signs_with_numbers(self):
        for top, bottom in WORTHS:
            one, worth = Ratio(top, bottom), Fraction(top, bottom)
            self.assertEqual(fraction(-one), -worth)
            for other in [Ratio(*parts) for parts in WORTHS] + [-3, 0, 2]:
                told = fraction(other) if isinstance(other, Ratio) else other
                pairs = ((one + other, worth + told), (one - other, worth - told), (one * other, worth * told))
                for made, wanted in pairs:
                    self.assertIsInstance(made, Ratio)
                    self.assertEqual((made.top, made.bottom), (wanted.numerator, wanted.denominator))

    def test_integers_on_the_left(self):
        for top, bottom in WORTHS:
            ratio, worth = Ratio(top, bottom), Fraction(top, bottom)
            for number in (-3, 0, 5):
                self.assertEqual([fraction(number + ratio), fraction(number - ratio), fraction(number * ratio)],
                                 [number + worth, number - worth, number * worth])
                self.assertIsInstance(number - ratio, Ratio)

    def test_wrong_values_on_the_right(self):
        for value in others():
            self.fails(InvalidNumber, {"value": value}, lambda: Ratio(1, 2) + value)
            self.fails(InvalidNumber, {"value": value}, lambda: Ratio(1, 2) - value)
            self.fails(InvalidNumber, {"value": value}, lambda: Ratio(1, 2) * value)

    def test_over(self):
        for top, bottom in WORTHS:
            for other in [Ratio(*parts) for parts in WORTHS] + [-3, 2]:
                worth = fraction(other) if isinstance(other, Ratio) else Fraction(other)
                if worth == 0:
                    self.fails(DividedByZero, {}, Ratio(top, bottom).over, other)
                else:
                    self.assertEqual(fraction(Ratio(top, bottom).over(other=other)), Fraction(top, bottom) / worth)
        self.fails(DividedByZero, {}, Ratio(0).over, 0)
        for value in others():
            self.fails(InvalidNumber, {"value": value}, Ratio(1).over, value)

    def test_unsigned(self):
        self.assertEqual([Ratio(-3, 2).unsigned(), Ratio(3, 2).unsigned(), Ratio(0).unsigned()],
                         [Ratio(3, 2), Ratio(3, 2), Ratio(0)])

    def test_order(self):
        for top, bottom in WORTHS:
            for other in [Ratio(*parts) for parts in WORTHS] + [-1, 0, 1]:
                worth = fraction(other) if isinstance(other, Ratio) else other
                self.assertIs(Ratio(top, bottom).is_below(other=other), Fraction(top, bottom) < worth)
                self.assertIs(Ratio(top, bottom).is_at_most(other=other), Fraction(top, bottom) <= worth)
        for value in others():
            self.fails(InvalidNumber, {"value": value}, Ratio(1).is_below, value)
            self.fails(InvalidNumber, {"value": value}, Ratio(1).is_at_most, value)

    def test_equal_to_ratios_alone(self):
        self.assertIs(Ratio(2, 4) == Ratio(1, 2), True)
        self.assertIs(Ratio(2, 4) != Ratio(1, 2), False)
        self.assertEqual([Ratio(1, 2) == Ratio(1, 3), Ratio(1, 2) == Ratio(3, 2), Ratio(1) == Ratio(-1)], [False] * 3)
        for value in [value for value in kinds() if not isinstance(value, Ratio)]:
            for ratio in (Ratio(0), Ratio(1)):
                self.assertIs(ratio == value, False)
                self.assertIs(value == ratio, False)
                self.assertIs(ratio != value, True)

    def test_total(self):
        self.assertEqual(repr([Ratio.total([]), Ratio.total(()), Ratio.total([3])]),
                         "[Ratio(0, 1), Ratio(0, 1), Ratio(3, 1)]")
        self.assertEqual(repr(Ratio.total((Ratio(1, 2), 1, Ratio(-1, 3)))), "Ratio(7, 6)")
        self.assertEqual(Ratio.total(numbers=[1, 2]), Ratio(3))

    def test_total_of_wrong_values(self):
        for value in kinds():
            if not isinstance(value, (list, tuple)):
                self.fails(InvalidNumber, {"value": value}, Ratio.total, value)
        for value in others():
            self.fails(InvalidNumber, {"value": value}, Ratio.total, [1, Ratio(1, 2), value, None])
            self.fails(InvalidNumber, {"value": value}, Ratio.total, (value, "b"))

    def test_total_changes_nothing(self):
        numbers = [1, Ratio(1, 2)]
        self.assertEqual(Ratio.total(numbers), Ratio.total(numbers))
        self.assertEqual(repr(numbers), "[1, Ratio(1, 2)]")

    def test_texts(self):
        self.assertEqual([str(Ratio(3, 2)), str(Ratio(-3, 2)), str(Ratio(4, 2)), str(Ratio(0)), str(Ratio(-5))],
                         ["3/2", "-3/2", "2", "0", "-5"])
        self.assertEqual([repr(Ratio(3, 2)), repr(Ratio(-2)), repr(Ratio(0, 7))],
                         ["Ratio(3, 2)", "Ratio(-2, 1)", "Ratio(0, 1)"])


if __name__ == "__main__":
    unittest.main()
