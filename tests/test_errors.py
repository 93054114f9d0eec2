"""The errors of point [19]: their names, base classes and attributes."""

import unittest
from importlib import import_module

ERRORS = {
    "NoName": (LookupError, "name"),
    "NoNumber": (LookupError, "number"),
    "NothingDone": (LookupError, ""),
    "NoReader": (ValueError, ""),
    "Twice": (ValueError, "name"),
    "NotJoined": (ValueError, "one other"),
    "BadText": (ValueError, ""),
    "BadLine": (ValueError, "number"),
}


class TestErrors(unittest.TestCase):
    def error_class(self, name):
        return getattr(import_module("oldornew.errors"), name)

    def test_each_is_a_direct_subclass_of_its_builtin_class_alone(self):
        for name, (base, _) in ERRORS.items():
            with self.subTest(name):
                self.assertEqual(self.error_class(name).__bases__, (base,))

    def test_each_is_defined_in_its_file_under_its_name(self):
        for name in ERRORS:
            with self.subTest(name):
                self.assertEqual(self.error_class(name).__module__, "oldornew.errors")
                self.assertEqual(self.error_class(name).__name__, name)

    def test_all_are_unlike_and_none_is_under_another(self):
        for name in ERRORS:
            for other in ERRORS:
                if name != other:
                    self.assertFalse(issubclass(self.error_class(name), self.error_class(other)))

    def test_values_are_kept_by_position_and_by_name(self):
        for name, (_, labels) in ERRORS.items():
            values = dict(zip(labels.split(), ("first", "second")))
            made = self.error_class(name)
            for error in (made(*values.values()), made(**values)):
                with self.subTest(name):
                    self.assertEqual({label: getattr(error, label) for label in values}, values)

    def test_values_are_kept_as_they_are(self):
        for value in ("x", 0, -1, 10 ** 40, ("a", "b")):
            self.assertEqual(self.error_class("NoName")(value).name, value)
            self.assertEqual(self.error_class("NoNumber")(value).number, value)
            self.assertEqual(self.error_class("Twice")(value).name, value)
            self.assertEqual(self.error_class("BadLine")(value).number, value)

    def test_values_cannot_be_left_out(self):
        for name, (_, labels) in ERRORS.items():
            if labels:
                with self.subTest(name), self.assertRaises(TypeError):
                    self.error_class(name)()

    def test_each_can_be_raised_and_caught_by_its_builtin_class(self):
        for name, (base, labels) in ERRORS.items():
            with self.subTest(name), self.assertRaises(base):
                raise self.error_class(name)(*labels.split())
