"""The error classes and how they stand under one another."""

import unittest

from twoorders.errors import Full, Missing, NoOrder, NotBegun, StoreError, Taken

REFUSALS = (Taken, Missing, Full, NotBegun, NoOrder)


class ErrorClasses(unittest.TestCase):
    def test_store_error_stands_under_value_error(self):
        self.assertTrue(issubclass(StoreError, ValueError))

    def test_each_refusal_stands_under_store_error(self):
        for refusal in REFUSALS:
            self.assertTrue(issubclass(refusal, StoreError), refusal)

    def test_no_refusal_stands_for_another(self):
        for refusal in REFUSALS:
            for other in REFUSALS:
                if refusal is not other:
                    self.assertFalse(issubclass(refusal, other), (refusal, other))

    def test_names(self):
        names = [refusal.__name__ for refusal in REFUSALS]
        self.assertEqual(names, ["Taken", "Missing", "Full", "NotBegun", "NoOrder"])

    def test_a_refusal_is_taken_as_a_store_error(self):
        for refusal in REFUSALS:
            with self.assertRaises(StoreError):
                raise refusal("some words")


if __name__ == "__main__":
    unittest.main()
