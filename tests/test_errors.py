"""The errors: their bases, and that each one keeps its argument."""

import unittest

from growlists import errors
from tests.samples import other_values

ATTRIBUTES = {
    "BadMembers": "value", "BadMember": "position", "BadSets": "value", "BadSet": "value", "NoMember": "value",
    "NoSet": "value", "NoNeighbour": "name", "BadCaller": "value", "NotNewer": "name", "BadKinds": "value",
    "BadNames": "value", "BadFallbacks": "value", "BadRule": "value", "BadName": "value", "NameTaken": "name",
    "NoHouse": "value", "BadWords": "value", "NotHeld": "position", "BadRow": "value", "TooFar": "count",
    "BadText": "line",
}


class Errors(unittest.TestCase):
    def test_base(self):
        self.assertEqual(errors.GrowError.__bases__, (ValueError,))
        self.assertEqual(errors.GrowError.__module__, "growlists.errors")

    def test_direct_subclasses(self):
        for word in ATTRIBUTES:
            with self.subTest(word):
                error = getattr(errors, word)
                self.assertEqual(error.__bases__, (errors.GrowError,))
                self.assertEqual(error.__module__, "growlists.errors")

    def test_all_errors_are_known_here(self):
        found = [word for word in vars(errors) if isinstance(getattr(errors, word), type)]
        self.assertEqual(sorted(found), sorted(["GrowError", *ATTRIBUTES]))

    def test_argument_by_place_and_by_name(self):
        for word, attribute in ATTRIBUTES.items():
            error = getattr(errors, word)
            for value in other_values():
                with self.subTest(word):
                    self.assertTrue(getattr(error(value), attribute) is value)
                    self.assertTrue(getattr(error(**{attribute: value}), attribute) is value)

    def test_exactly_one_argument(self):
        for word, attribute in ATTRIBUTES.items():
            error = getattr(errors, word)
            with self.subTest(word):
                self.assertRaises(TypeError, error)
                self.assertRaises(TypeError, error, 1, 2)
                self.assertEqual(list(vars(error(1))), [attribute])

    def test_messages_are_short_for_every_value(self):
        for word in ATTRIBUTES:
            for value in other_values():
                self.assertLess(len(str(getattr(errors, word)(value))), 100)

    def test_caught_as_base(self):
        for word in ATTRIBUTES:
            with self.assertRaises(errors.GrowError):
                raise getattr(errors, word)(1)
