"""The told numbers, and the classes of errors."""

import inspect
import unittest

from oracle import ODD_VALUES
from wallwalks import errors, limits

LIMITS = {
    "MOST_BUTTONS": 6, "MOST_WORD": 60, "MOST_POWER": 64, "MOST_STEPS": 4000, "MOST_WAY": 12, "MOST_LOT": 1000,
    "MOST_COUNT": 200, "MOST_FAR": 10 ** 18, "MOST_MODULUS": 10 ** 6, "MOST_DEPTH": 12, "MOST_SMALL": 60,
    "MOST_STATES": 400, "MOST_CHANGES": 400, "MOST_UNDER": 120, "MOST_LAURENT": 400, "MOST_ORDER": 60,
}

CLASSES = {
    ("WrongValue", ValueError): {
        "given": (
            "InvalidNumber", "InvalidText", "InvalidName", "InvalidButton", "InvalidRenaming", "InvalidStep",
            "InvalidDeed", "InvalidWish", "InvalidLine", "InvalidDeal", "InvalidThrows", "NotATable", "NotAChange",
            "NotAWall", "NotAPositive", "NotAQuotient", "NotABench",
        ),
        "index": (
            "InvalidTies", "InvalidWord", "InvalidRoom", "InvalidVector", "InvalidWalls", "InvalidChanges",
            "InvalidCoefficients", "InvalidTerms", "InvalidSigned", "InvalidPairs",
        ),
        None: ("OtherTable",),
    },
    ("WrongName", LookupError): {"given": ("UnknownName",), "index": ("InUse",), None: ()},
    ("NoAnswer", ArithmeticError): {
        "given": ("TooMany", "TooFew", "NotAFlip", "NotDressed"),
        "index": ("Broken",),
        None: ("NotFinite", "AllFinite", "NothingToUndo"),
    },
}


class LimitTest(unittest.TestCase):
    def test_the_told_numbers(self):
        for name, number in LIMITS.items():
            with self.subTest(name=name):
                self.assertIs(type(getattr(limits, name)), int)
                self.assertEqual(getattr(limits, name), number)


class ErrorTest(unittest.TestCase):
    def each(self):
        for (base, parent), lots in CLASSES.items():
            for attribute, names in lots.items():
                for name in names:
                    yield getattr(errors, base), parent, attribute, getattr(errors, name)

    def test_bases_are_made_without_values(self):
        for base, parent in CLASSES:
            made = getattr(errors, base)()
            self.assertEqual(type(made).__mro__, (type(made), *parent.__mro__))
            self.assertEqual(vars(made), {})

    def test_each_stands_under_its_base_alone(self):
        for base, parent, _, kind in self.each():
            with self.subTest(kind=kind):
                self.assertEqual(kind.__mro__, (kind, base, *parent.__mro__))

    def test_each_bears_what_it_is_given_by_position_and_by_name(self):
        for _, _, attribute, kind in self.each():
            for value in ODD_VALUES + (1.5, kind):
                with self.subTest(kind=kind, attribute=attribute):
                    if attribute is None:
                        self.assertEqual(vars(kind()), {})
                        continue
                    for made in (kind(value), kind(**{attribute: value})):
                        self.assertIs(getattr(made, attribute), value)
                        self.assertEqual(list(vars(made)), [attribute])

    def test_each_needs_its_value(self):
        for _, _, attribute, kind in self.each():
            if attribute is not None:
                self.assertRaises(TypeError, kind)

    def test_no_other_class_is_there(self):
        told = {kind.__name__ for _, _, _, kind in self.each()} | {base for base, _ in CLASSES}
        found = {name for name, value in vars(errors).items() if inspect.isclass(value)}
        self.assertEqual(found, told)


if __name__ == "__main__":
    unittest.main()
