"""Tests of clearday.errors."""

import unittest

from clearday import errors

NAMES = [
    "BadCount", "BadDebt", "BadCut", "Uneven", "BadPrices",
    "NotBest", "NoDebt", "NoHouse", "BadAmount",
]


class ErrorsTest(unittest.TestCase):
    def test_debt_error_is_a_value_error(self):
        self.assertEqual(errors.DebtError.__bases__, (ValueError,))
        self.assertEqual(errors.DebtError.__module__, "clearday.errors")

    def test_each_class_stands_under_debt_error(self):
        for name in NAMES:
            with self.subTest(name=name):
                error = getattr(errors, name)
                self.assertTrue(issubclass(error, errors.DebtError))
                self.assertIsNot(error, errors.DebtError)
                self.assertEqual(error.__module__, "clearday.errors")
                self.assertEqual(error.__name__, name)

    def test_none_stands_under_another_one(self):
        classes = [getattr(errors, name) for name in NAMES]
        self.assertEqual(len(set(classes)), 9)
        for one in classes:
            for other in classes:
                with self.subTest(one=one, other=other):
                    self.assertEqual(issubclass(one, other), one is other)

    def test_each_can_be_raised_and_caught_as_each_of_its_bases(self):
        for name in NAMES:
            error = getattr(errors, name)
            for base in (error, errors.DebtError, ValueError):
                with self.subTest(name=name, base=base):
                    with self.assertRaises(base):
                        raise error("no")


if __name__ == "__main__":
    unittest.main()
