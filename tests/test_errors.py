"""[5] The error classes."""

import unittest

from neverapart import errors
from plainly import ODD

VALUED = """InvalidFact InvalidStore InvalidRule InvalidBook InvalidQuestion InvalidDeed InvalidGoal InvalidScript
    InvalidEdition InvalidGuard InvalidDates InvalidChances InvalidLot InvalidNames InvalidLayers InvalidName InvalidLog
    InvalidText InvalidNumber UnknownName TakenName NotPlain NotFiring Unsound""".split()
FIELDS = {**{name: "value" for name in VALUED}, "NotLayered": "ring", "TooMany": "most", "NotMeeting": "conflicts"}
BARE = ["NothingToUndo", "NothingToRedo"]


class Errors(unittest.TestCase):
    def test_never_error_is_derived_from_value_error_alone(self):
        self.assertEqual(errors.NeverError.__bases__, (ValueError,))
        self.assertEqual(vars(errors.NeverError()), {})

    def test_each_class_is_derived_from_never_error_alone(self):
        for name in list(FIELDS) + BARE:
            self.assertEqual(getattr(errors, name).__bases__, (errors.NeverError,), name)
            self.assertEqual(getattr(errors, name).__module__, "neverapart.errors")

    def test_there_are_no_other_classes(self):
        classes = [name for name in vars(errors) if isinstance(getattr(errors, name), type)]
        self.assertEqual(sorted(classes), sorted(["NeverError", *FIELDS, *BARE]))

    def test_the_field_holds_the_very_object(self):
        for name, field in FIELDS.items():
            kind = getattr(errors, name)
            for thing in ODD + [object(), ["new"], kind()]:
                self.assertIs(getattr(kind(thing), field), thing)
                self.assertIs(getattr(kind(**{field: thing}), field), thing)
                self.assertEqual(list(vars(kind(thing))), [field])

    def test_without_an_object_the_field_is_none(self):
        for name, field in FIELDS.items():
            self.assertIsNone(getattr(getattr(errors, name)(), field))

    def test_the_others_are_made_without_arguments(self):
        for name in BARE:
            self.assertEqual(vars(getattr(errors, name)()), {})

    def test_they_are_raised_and_caught_as_value_errors(self):
        for name in list(FIELDS) + BARE:
            with self.assertRaises(ValueError):
                raise getattr(errors, name)()


if __name__ == "__main__":
    unittest.main()
