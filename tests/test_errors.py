"""[5]: the errors, their fields, and of what they are kinds."""

import unittest

from elderlink import errors
from tests.samples import repr_of, strange

WITH_FIELD = [
    "InvalidAsker", "InvalidLine", "InvalidStock", "InvalidKind", "InvalidNames", "InvalidCount", "InvalidDeal",
    "InvalidTold", "InvalidRanks", "InvalidShares", "InvalidKeeps", "InvalidDays", "InvalidDayLine",
    "InvalidSupplies", "InvalidWorths", "InvalidNumbers", "InvalidScript", "InvalidLog", "InvalidText",
    "UnknownName", "TakenName", "Unlike", "NotEnough",
]
WITHOUT_FIELD = ["NothingToUndo", "NothingToRedo"]


class Errors(unittest.TestCase):
    def test_field_is_the_very_object(self):
        for name in WITH_FIELD:
            made = getattr(errors, name)
            for value in strange():
                with self.subTest(name=name, value=repr_of(value)):
                    self.assertIs(made(value).value, value)
                    self.assertIs(made(value=value).value, value)

    def test_field_is_none_without_one(self):
        for name in WITH_FIELD:
            with self.subTest(name=name):
                self.assertIsNone(getattr(errors, name)().value)

    def test_one_error_does_not_hold_the_value_of_another(self):
        for name in WITH_FIELD:
            made = getattr(errors, name)
            first, second = made("a"), made("b")
            self.assertEqual([first.value, second.value, made().value], ["a", "b", None])

    def test_classes_without_a_field(self):
        for name in WITHOUT_FIELD + ["ElderError"]:
            with self.subTest(name=name):
                self.assertFalse(hasattr(getattr(errors, name)(), "value"))

    def test_each_is_a_kind_of_the_two_and_of_no_other(self):
        self.assertTrue(issubclass(errors.ElderError, ValueError))
        for name in WITH_FIELD + WITHOUT_FIELD:
            made = getattr(errors, name)
            self.assertTrue(issubclass(made, errors.ElderError))
            self.assertIsInstance(made(), ValueError)
            for other in WITH_FIELD + WITHOUT_FIELD:
                with self.subTest(name=name, other=other):
                    self.assertEqual(issubclass(made, getattr(errors, other)), name == other)

    def test_each_can_be_raised_and_caught(self):
        for name in WITH_FIELD + WITHOUT_FIELD:
            for kind in (getattr(errors, name), errors.ElderError, ValueError):
                with self.subTest(name=name, kind=kind), self.assertRaises(kind):
                    raise getattr(errors, name)()
