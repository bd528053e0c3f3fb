"""The error classes of the interface."""

import unittest

from takeagain import errors
from tests.support import REFUSALS


class ErrorClasses(unittest.TestCase):
    def test_take_error_is_straight_under_value_error(self):
        self.assertEqual(errors.TakeError.__bases__, (ValueError,))

    def test_six_refusals_are_straight_under_take_error(self):
        names = ["BadFactor", "BadHeap", "BadLimit", "BadNumber", "BadSum", "BadTaking"]
        self.assertEqual([refusal.__name__ for refusal in REFUSALS], names)
        for refusal in REFUSALS:
            with self.subTest(refusal=refusal.__name__):
                self.assertEqual(refusal.__bases__, (errors.TakeError,))

    def test_each_is_raised_and_caught_as_each_of_its_bases(self):
        for refusal in REFUSALS:
            for base in (refusal, errors.TakeError, ValueError):
                with self.subTest(refusal=refusal.__name__, base=base.__name__):
                    with self.assertRaises(base):
                        raise refusal("why")

    def test_none_is_another_one(self):
        for refusal in REFUSALS:
            for other in REFUSALS:
                with self.subTest(refusal=refusal.__name__, other=other.__name__):
                    self.assertEqual(issubclass(refusal, other), refusal is other)


if __name__ == "__main__":
    unittest.main()
