"""[5]: the errors."""

import unittest

from endswell import errors
from tests.helpers import junk, loop

WITH_VALUE = [
    "InvalidWord", "InvalidBook", "InvalidState", "InvalidDesk", "InvalidDesks", "InvalidNames", "InvalidChange",
    "InvalidChanges", "InvalidTalk", "InvalidPair", "InvalidLot", "InvalidWords", "InvalidCount", "InvalidLevels",
    "InvalidPartner", "InvalidScene", "InvalidDeeds", "InvalidArms", "InvalidFrame", "InvalidHall", "InvalidSpot",
    "InvalidScript", "InvalidText", "InvalidLog", "Hopeless", "Refused",
]
WITHOUT = ["DeskError", "NothingToUndo", "NothingToRedo"]


class TheErrors(unittest.TestCase):
    def test_all_are_classes_of_their_module(self):
        for name in WITH_VALUE + WITHOUT:
            made = getattr(errors, name)
            self.assertIsInstance(made, type)
            self.assertEqual((made.__module__, made.__name__), ("endswell.errors", name))

    def test_desk_error_is_a_value_error(self):
        self.assertTrue(issubclass(errors.DeskError, ValueError))
        self.assertIsInstance(errors.DeskError(), ValueError)

    def test_all_others_are_desk_errors_and_none_is_another_one(self):
        names = [name for name in WITH_VALUE + WITHOUT if name != "DeskError"]
        for name in names:
            for other in names:
                derived = issubclass(getattr(errors, name), getattr(errors, other))
                self.assertEqual(derived, name == other, (name, other))
            self.assertTrue(issubclass(getattr(errors, name), errors.DeskError), name)

    def test_the_field_is_any_object(self):
        for name in WITH_VALUE:
            made = getattr(errors, name)
            for thing in junk() + [loop()]:
                self.assertIs(made(thing).value, thing)
                self.assertIs(made(value=thing).value, thing)

    def test_the_field_is_none_without_one(self):
        for name in WITH_VALUE:
            self.assertIsNone(getattr(errors, name)().value)

    def test_objects_have_fields_of_their_own(self):
        for name in WITH_VALUE:
            first, second = getattr(errors, name)("x"), getattr(errors, name)(["y"])
            self.assertEqual((first.value, second.value), ("x", ["y"]))

    def test_the_others_have_no_field(self):
        for name in WITHOUT:
            self.assertFalse(hasattr(getattr(errors, name)(), "value"))

    def test_they_can_be_raised_and_caught(self):
        for name in WITH_VALUE + WITHOUT:
            with self.assertRaises(errors.DeskError):
                raise getattr(errors, name)()
