"""INTEGERS and COUNTS [2]."""

import unittest

from pairsfree.basics import is_count, is_integer
from pairsfree.ratios import Ratio
from tests.helper import kinds


class BasicsTest(unittest.TestCase):

    def test_integers(self):
        for value in (0, 1, -1, 7, 10 ** 30, -(10 ** 30)):
            self.assertIs(is_integer(value), True)

    def test_counts(self):
        for value in (0, 1, 7, 10 ** 30):
            self.assertIs(is_count(value), True)
        for value in (-1, -7, -(10 ** 30)):
            self.assertIs(is_count(value), False)

    def test_bools_are_none(self):
        for value in (True, False):
            self.assertIs(is_integer(value), False)
            self.assertIs(is_count(value), False)

    def test_values_of_every_kind(self):
        for value in kinds():
            is_int = type(value) is int
            self.assertIs(is_integer(value), is_int)
            self.assertIs(is_count(value), is_int and value >= 0)

    def test_ratios_are_none(self):
        for value in (Ratio(0), Ratio(2), Ratio(-1)):
            self.assertIs(is_integer(value), False)
            self.assertIs(is_count(value), False)

    def test_names(self):
        self.assertEqual([is_integer(value=3), is_count(value=-3)], [True, False])


if __name__ == "__main__":
    unittest.main()
