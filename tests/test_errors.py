"""Errors: the heading "eyesonly/errors.py"."""

import unittest

from eyesonly import errors
from tests.helpers import ODD_VALUES

NAMES = (
    "BadTree BadScript BadProgram BadCode BadPlace BadWay BadText BadCall BadPicks BadNumber Choosing BadValue BadPoly "
    "BadShape BadRow BadPlaces NotLast BadMachine BadName BadWord BadTags BadRules BadTies BadStep"
).split()


def attribute_of(name):
    return "at" if name == "BadText" else "thing"


class Errors(unittest.TestCase):
    def test_there_are_24_classes_and_their_base(self):
        found = [name for name in vars(errors) if isinstance(vars(errors)[name], type)]
        self.assertEqual(sorted(found), sorted(NAMES + ["EyesError"]))
        self.assertEqual(len(NAMES), 24)

    def test_bases(self):
        self.assertEqual(errors.EyesError.__bases__, (Exception,))
        for name in NAMES:
            self.assertEqual(getattr(errors, name).__bases__, (errors.EyesError,))

    def test_parameter_by_position_and_by_name(self):
        for name in NAMES:
            for value in ODD_VALUES:
                error_class, attribute = getattr(errors, name), attribute_of(name)
                self.assertIs(getattr(error_class(value), attribute), value)
                self.assertIs(getattr(error_class(**{attribute: value}), attribute), value)

    def test_constructor_in_the_class_itself(self):
        for name in NAMES:
            self.assertIn("__init__", vars(getattr(errors, name)))

    def test_no_other_parameters(self):
        for name in NAMES:
            error_class = getattr(errors, name)
            self.assertRaises(TypeError, error_class)
            self.assertRaises(TypeError, error_class, 1, 2)
            self.assertRaises(TypeError, error_class, wrong=1)

    def test_caught_by_its_own_class_and_the_base_and_by_no_other(self):
        for name in NAMES:
            for other in NAMES + ["EyesError", "Exception"]:
                caught = other in (name, "EyesError", "Exception")
                try:
                    raise getattr(errors, name)(("a", 1))
                except getattr(errors, other, Exception) as error:
                    self.assertTrue(caught)
                    self.assertEqual(getattr(error, attribute_of(name)), ("a", 1))
                except errors.EyesError:
                    self.assertFalse(caught)

    def test_not_a_python_error_of_another_kind(self):
        for name in NAMES:
            self.assertNotIsInstance(getattr(errors, name)(1), (ValueError, TypeError, LookupError, ArithmeticError))
