"""Point 3: the errors and their base."""

import unittest

from columnkin import errors

NAMES = (
    "BadSchema", "BadRecord", "BadParts", "BadOctets", "Inconsistent", "Unsound",
    "TooMany", "NoSuchPath", "NoSuchRecord", "WrongKind", "CannotAdopt",
)


class ErrorsTest(unittest.TestCase):
    def test_base_is_a_value_error(self):
        self.assertTrue(issubclass(errors.KinError, ValueError))

    def test_each_error_stands_under_the_base(self):
        for name in NAMES:
            with self.subTest(name=name):
                error = getattr(errors, name)
                self.assertTrue(issubclass(error, errors.KinError))
                self.assertIsNot(error, errors.KinError)

    def test_errors_differ_from_each_other(self):
        self.assertEqual(len({getattr(errors, name) for name in NAMES}), len(NAMES))

    def test_names_and_file(self):
        for name in ("KinError", *NAMES):
            with self.subTest(name=name):
                error = getattr(errors, name)
                self.assertEqual((error.__name__, error.__module__), (name, "columnkin.errors"))

    def test_each_error_can_be_raised_and_caught_by_the_base(self):
        for name in NAMES:
            with self.subTest(name=name), self.assertRaises(errors.KinError):
                raise getattr(errors, name)("why")


if __name__ == "__main__":
    unittest.main()
