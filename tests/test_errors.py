"""The row of surebest/errors.py in the interface."""

import unittest

from surebest.errors import BestError, NoNetwork, NoRatio, NoTable, NoWay

REFUSALS = [NoNetwork, NoTable, NoRatio, NoWay]


class ErrorsTest(unittest.TestCase):
    def test_best_error_stands_below_value_error(self):
        self.assertEqual(BestError.__bases__, (ValueError,))

    def test_each_refusal_stands_below_best_error(self):
        for refusal in REFUSALS:
            self.assertTrue(issubclass(refusal, BestError), refusal)
            self.assertIsNot(refusal, BestError)

    def test_no_refusal_stands_below_another(self):
        for one in REFUSALS:
            for other in REFUSALS:
                self.assertEqual(issubclass(one, other), one is other, (one, other))

    def test_each_is_raised_with_words_and_taken_by_its_bases(self):
        for refusal in [BestError] + REFUSALS:
            for base in [refusal, BestError, ValueError]:
                with self.assertRaises(base) as taken:
                    raise refusal("some words")
                self.assertEqual(str(taken.exception), "some words")


if __name__ == "__main__":
    unittest.main()
