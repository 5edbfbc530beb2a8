"""The error classes of the interface (schemebound/errors.py)."""

import unittest

from schemebound import errors

PLAIN = ("InvalidScheme", "InvalidLot", "InvalidQuestion", "NothingToUndo", "NothingToRedo")
WITH_ATTRIBUTE = {
    "UnknownPoint": "point", "UnknownName": "name", "InvalidNotation": "line", "InvalidPaper": "line",
    "TooMany": "limit", "NameInUse": "name",
}


class ErrorClasses(unittest.TestCase):
    def test_the_base_is_a_value_error(self):
        self.assertEqual(errors.SchemeboundError.__bases__, (ValueError,))

    def test_all_others_derive_from_the_base_straight(self):
        for name in PLAIN + tuple(WITH_ATTRIBUTE):
            with self.subTest(name):
                self.assertEqual(getattr(errors, name).__bases__, (errors.SchemeboundError,))
                self.assertEqual(getattr(errors, name).__module__, "schemebound.errors")

    def test_the_attribute_is_set_when_the_error_is_created(self):
        for name, attribute in WITH_ATTRIBUTE.items():
            for value in (0, -1, 10 ** 60, 10 ** 5000, "name"):
                with self.subTest(name):
                    self.assertEqual(vars(getattr(errors, name)(value)), {attribute: value})

    def test_each_error_can_be_shown(self):
        # A message with the number in it would fail here: Python writes no integer of so many digits.
        for name in WITH_ATTRIBUTE:
            with self.subTest(name):
                self.assertTrue(str(getattr(errors, name)(10 ** 5000)))
        for name in PLAIN:
            with self.subTest(name):
                self.assertEqual(str(getattr(errors, name)("why")), "why")


if __name__ == "__main__":
    unittest.main()
