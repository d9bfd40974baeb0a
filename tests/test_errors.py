"""Tests of graftrules.errors: the errors, their attributes and their family."""

import unittest

from graftrules import errors
from tests.helper import any_values

ATTRIBUTES = {
    "NoPlace": "place",
    "BadLot": "number",
    "NoRule": "number",
    "NoStep": "at",
    "GoesOn": None,
    "TooLong": "number",
    "TooLarge": "nodes",
    "TooMany": "limit",
    "NothingDone": None,
    "UnknownMark": "number",
    "InvalidText": "at",
}


class TestFamily(unittest.TestCase):
    def test_base(self):
        self.assertEqual(errors.TreeError.__bases__, (ValueError,))

    def test_each_is_a_direct_subclass(self):
        for name in ATTRIBUTES:
            self.assertEqual(getattr(errors, name).__bases__, (errors.TreeError,), name)

    def test_none_is_a_subclass_of_another(self):
        for one in ATTRIBUTES:
            for other in ATTRIBUTES:
                is_sub = issubclass(getattr(errors, one), getattr(errors, other))
                self.assertEqual(is_sub, one == other, (one, other))

    def test_there_are_no_others(self):
        found = {name for name, value in vars(errors).items() if isinstance(value, type)}
        self.assertEqual(found, set(ATTRIBUTES) | {"TreeError"})

    def test_each_is_defined_in_its_file(self):
        for name in ["TreeError"] + list(ATTRIBUTES):
            self.assertEqual(getattr(errors, name).__module__, "graftrules.errors")


class TestAttributes(unittest.TestCase):
    def check(self, made, attribute, value):
        self.assertIsInstance(made, errors.TreeError)
        self.assertEqual(repr(getattr(made, attribute)), repr(value))
        self.assertEqual(list(vars(made)), [attribute])

    def test_any_value_by_position_and_by_name(self):
        for name, attribute in ATTRIBUTES.items():
            if attribute is None:
                continue
            for value in any_values():
                self.check(getattr(errors, name)(value), attribute, value)
                self.check(getattr(errors, name)(**{attribute: value}), attribute, value)

    def test_number_too_great_to_be_written(self):
        # Python refuses to write it down, so a message must not try to.
        great = 1 << 20000
        for name, attribute in ATTRIBUTES.items():
            if attribute is not None:
                made = getattr(errors, name)(great)
                self.assertEqual(getattr(made, attribute), great)
                self.assertIsInstance(str(made), str)

    def test_without_attributes(self):
        for made in (errors.GoesOn(), errors.NothingDone(), errors.TreeError()):
            self.assertEqual(vars(made), {})

    def test_raised_and_caught(self):
        with self.assertRaises(ValueError) as caught:
            raise errors.InvalidText(at=4)
        self.assertEqual(caught.exception.at, 4)
        with self.assertRaises(errors.TreeError):
            raise errors.GoesOn()
