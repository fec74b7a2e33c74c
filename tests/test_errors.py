"""Tests of oneparts.errors."""

import unittest

from oneparts import errors

NAMES = [
    "InvalidFraction", "InvalidSum", "InvalidNumber", "NotThere", "CannotSplit", "TooGreat", "Used", "NothingToUndo",
    "ParseError",
]


class ErrorsTest(unittest.TestCase):
    def test_part_error_is_a_value_error(self):
        self.assertEqual(errors.PartError.__bases__, (ValueError,))

    def test_each_error_is_a_direct_subclass_of_part_error(self):
        for name in NAMES:
            with self.subTest(name):
                self.assertEqual(getattr(errors, name).__bases__, (errors.PartError,))

    def test_no_other_class_is_a_direct_subclass(self):
        found = sorted(found.__name__ for found in errors.PartError.__subclasses__())
        self.assertEqual(found, sorted(NAMES))

    def test_none_inherits_from_another_one(self):
        classes = [getattr(errors, name) for name in NAMES]
        for one in classes:
            for other in classes:
                with self.subTest(one=one, other=other):
                    self.assertEqual(issubclass(one, other), one is other)

    def test_the_classes_are_defined_in_this_file(self):
        for name in ["PartError"] + NAMES:
            with self.subTest(name):
                self.assertEqual(getattr(errors, name).__module__, "oneparts.errors")
                self.assertEqual(getattr(errors, name).__name__, name)

    def test_each_error_can_be_raised_and_caught_by_its_name_and_as_a_value_error(self):
        for name in NAMES:
            for caught in (getattr(errors, name), errors.PartError, ValueError):
                with self.subTest(name, caught=caught):
                    with self.assertRaises(caught):
                        raise getattr(errors, name)("why")


if __name__ == "__main__":
    unittest.main()
