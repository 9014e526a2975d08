"""The errors: their names, their bases, their attributes."""

import unittest

from pairsfree import errors
from tests.helper import kinds

BASES = {"RowError": ValueError, "MissingError": LookupError, "StateError": RuntimeError, "LimitError": ArithmeticError}

OF_VALUES = (
    "InvalidFrame InvalidLot InvalidMany InvalidNumber InvalidNumbers InvalidPairs InvalidParting InvalidPlace"
    " InvalidRoom InvalidRow InvalidRows InvalidSize InvalidWeb InvalidBars InvalidClaim InvalidCommand InvalidPair"
    " InvalidPaper InvalidPins InvalidPlaces InvalidPoints InvalidSort InvalidTable InvalidThrees InvalidTies"
    " InvalidValue").split()

CLASSES = {
    "RowError": {**{name: ["value"] for name in OF_VALUES}, "DividedByZero": [], "InvalidLines": ["position"],
                 "InvalidText": ["line"]},
    "MissingError": {"UnknownLabel": ["value"], "UnknownName": ["value"]},
    "StateError": {"CommandFailed": ["position"], "LabelTaken": ["label"], "NameTaken": ["name"], "NotFree": [],
                   "NothingToRedo": [], "NothingToUndo": [], "NoughtRow": []},
    "LimitError": {"TooMany": ["what", "limit"]},
}


class ErrorsTest(unittest.TestCase):

    def test_bases(self):
        for name, base in BASES.items():
            self.assertEqual(getattr(errors, name).__bases__, (base,))
            self.assertIsInstance(getattr(errors, name)(), base)

    def test_direct_subclasses(self):
        for base, classes in CLASSES.items():
            for name in classes:
                self.assertEqual(getattr(errors, name).__bases__, (getattr(errors, base),), name)

    def test_no_other_classes(self):
        found = {name for name, value in vars(errors).items() if isinstance(value, type)}
        self.assertEqual(found, set(BASES) | {name for classes in CLASSES.values() for name in classes})

    def test_attributes(self):
        for classes in CLASSES.values():
            for name, attributes in classes.items():
                for value in kinds():
                    make, values = getattr(errors, name), [value, [value]][:len(attributes)]
                    for made in (make(*values), make(**dict(zip(attributes, values)))):
                        self.assertEqual(sorted(vars(made)), sorted(attributes))
                        for attribute, told in zip(attributes, values):
                            self.assertIs(getattr(made, attribute), told)

    def test_each_object_has_its_own(self):
        one, other = errors.InvalidRow(1), errors.InvalidRow(2)
        self.assertEqual((one.value, other.value), (1, 2))


if __name__ == "__main__":
    unittest.main()
