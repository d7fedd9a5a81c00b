"""[0.3] and the row of surebest/ratios.py in the interface; [0.1] of it."""

import copy
import random
import unittest
from fractions import Fraction
from math import gcd

from surebest.errors import NoRatio
from surebest.ratios import dot, is_less, minus, over, plus, ratio, times

LONG = 10 ** 99 + 289
NINES = 10 ** 100 - 1
SMALL_NUMBERS = list(range(-12, 13))
LONG_NUMBERS = [LONG, -LONG, NINES, -NINES, 6 * 10 ** 98, -(2 ** 330), 3 ** 200]


def all_ratios(numbers):
    """The ratios of all these whole numbers, made without the program."""
    fractions = sorted({Fraction(top, under) for top in numbers for under in numbers if under != 0})
    return [(found.numerator, found.denominator) for found in fractions]


SMALL_RATIOS = all_ratios(range(-5, 6))
LONG_RATIOS = all_ratios([0, 1, -7] + LONG_NUMBERS)


def drawn_ratios(chance, many, most):
    drawn = [Fraction(chance.randint(-most, most), chance.randint(1, most)) for _ in range(many)]
    return [(found.numerator, found.denominator) for found in drawn]


class RatiosCase(unittest.TestCase):
    def assert_ratio(self, found, top, under):
        """That found is a ratio as [0.3] says, and that of top and under, by products alone."""
        self.assertIs(type(found), tuple)
        self.assertEqual([type(part) for part in found], [int, int])
        self.assertGreater(found[1], 0)
        self.assertEqual(gcd(found[0], found[1]), 1)
        self.assertEqual(found[0] * under, top * found[1])


class RatioTest(RatiosCase):
    def test_written_out(self):
        self.assertEqual(ratio(6, 4), (3, 2))
        self.assertEqual(ratio(-6, 4), (-3, 2))
        self.assertEqual(ratio(6, -4), (-3, 2))
        self.assertEqual(ratio(-6, -4), (3, 2))
        self.assertEqual(ratio(7, 1), (7, 1))
        self.assertEqual(ratio(5, 5), (1, 1))
        self.assertEqual(ratio(-5, 5), (-1, 1))

    def test_nought_on_top(self):
        for under in [1, -1, 8, -8, NINES, -NINES]:
            self.assertEqual(ratio(0, under), (0, 1))

    def test_small_numbers(self):
        for top in SMALL_NUMBERS:
            for under in SMALL_NUMBERS:
                if under != 0:
                    self.assert_ratio(ratio(top, under), top, under)

    def test_long_numbers(self):
        for top in LONG_NUMBERS:
            for under in LONG_NUMBERS:
                self.assert_ratio(ratio(top, under), top, under)

    def test_long_numbers_with_a_long_common_divisor(self):
        half = 10 ** 49 + 9
        self.assertEqual(ratio(half * 14, half * -21), (-2, 3))
        self.assertEqual(ratio(-LONG, -LONG), (1, 1))
        self.assertEqual(ratio(NINES * 4, 6), (NINES * 2 // 3, 1))

    def test_somewhat_longer_numbers_are_not_refused(self):
        top = 10 ** 130 + 1
        self.assert_ratio(ratio(top, -(10 ** 120)), top, -(10 ** 120))

    def test_under_nought_is_refused(self):
        for top in [0, 1, -1, 12, LONG, -NINES]:
            with self.assertRaises(NoRatio):
                ratio(top, 0)


class OperationsTest(RatiosCase):
    def assert_operations(self, one, other):
        cross = one[1] * other[1]
        self.assert_ratio(plus(one, other), one[0] * other[1] + other[0] * one[1], cross)
        self.assert_ratio(minus(one, other), one[0] * other[1] - other[0] * one[1], cross)
        self.assert_ratio(times(one, other), one[0] * other[0], cross)
        if other[0] != 0:
            self.assert_ratio(over(one, other), one[0] * other[1], one[1] * other[0])
        self.assertIs(is_less(one, other), one[0] * other[1] < other[0] * one[1])

    def test_written_out(self):
        self.assertEqual(plus((1, 6), (1, 3)), (1, 2))
        self.assertEqual(plus((1, 2), (-1, 2)), (0, 1))
        self.assertEqual(minus((1, 6), (2, 3)), (-1, 2))
        self.assertEqual(minus((2, 3), (2, 3)), (0, 1))
        self.assertEqual(times((2, 3), (-3, 4)), (-1, 2))
        self.assertEqual(times((0, 1), (-3, 4)), (0, 1))
        self.assertEqual(over((2, 3), (-4, 3)), (-1, 2))
        self.assertEqual(over((0, 1), (-4, 3)), (0, 1))

    def test_small_ratios(self):
        for one in SMALL_RATIOS:
            for other in SMALL_RATIOS:
                self.assert_operations(one, other)

    def test_long_ratios(self):
        for one in LONG_RATIOS:
            for other in LONG_RATIOS:
                self.assert_operations(one, other)

    def test_drawn_ratios(self):
        chance = random.Random(3)
        for most in [30, 10 ** 20, NINES]:
            row = drawn_ratios(chance, 20, most)
            for one in row:
                for other in row:
                    self.assert_operations(one, other)

    def test_is_less_written_out(self):
        self.assertIs(is_less((1, 3), (1, 2)), True)
        self.assertIs(is_less((1, 2), (1, 3)), False)
        self.assertIs(is_less((1, 2), (1, 2)), False)
        self.assertIs(is_less((-1, 2), (-1, 3)), True)
        self.assertIs(is_less((-1, 2), (0, 1)), True)
        self.assertIs(is_less((0, 1), (0, 1)), False)
        self.assertIs(is_less((LONG, LONG + 1), (LONG + 1, LONG + 2)), True)

    def test_is_less_puts_in_order(self):
        for place, one in enumerate(SMALL_RATIOS):
            for behind, other in enumerate(SMALL_RATIOS):
                self.assertIs(is_less(one, other), place < behind)

    def test_over_nought_is_refused(self):
        for one in SMALL_RATIOS + LONG_RATIOS:
            with self.assertRaises(NoRatio):
                over(one, (0, 1))

    def test_nought_is_refused_nowhere_else(self):
        nought = (0, 1)
        for one in SMALL_RATIOS + LONG_RATIOS:
            self.assertEqual(plus(one, nought), one)
            self.assertEqual(plus(nought, one), one)
            self.assertEqual(minus(one, nought), one)
            self.assertEqual(minus(nought, one), (-one[0], one[1]))
            self.assertEqual(times(one, nought), nought)
            self.assertEqual(times(nought, one), nought)
            self.assertIs(is_less(one, nought), one[0] < 0)
            self.assertIs(is_less(nought, one), one[0] > 0)
            self.assertEqual(dot([one, nought], [nought, one]), nought)
            if one != nought:
                self.assertEqual(over(nought, one), nought)


class DotTest(RatiosCase):
    def assert_dot(self, row, other):
        plain = sum([Fraction(*left) * Fraction(*right) for left, right in zip(row, other)], Fraction(0))
        self.assert_ratio(dot(row, other), plain.numerator, plain.denominator)

    def test_empty_lists(self):
        self.assertEqual(dot([], []), (0, 1))

    def test_written_out(self):
        self.assertEqual(dot([(2, 3)], [(3, 4)]), (1, 2))
        self.assertEqual(dot([(1, 2), (1, 3)], [(1, 1), (-3, 2)]), (0, 1))
        self.assertEqual(dot([(1, 2), (1, 3), (5, 1)], [(4, 1), (3, 1), (-1, 2)]), (1, 2))

    def test_longer_lists(self):
        chance = random.Random(4)
        for many in [1, 2, 3, 6, 7, 40]:
            for most in [9, NINES]:
                self.assert_dot(drawn_ratios(chance, many, most), drawn_ratios(chance, many, most))

    def test_one_list_with_itself(self):
        row = list(SMALL_RATIOS)
        self.assert_dot(row, row)

    def test_what_was_handed_in_stays(self):
        row = [(1, 2), (-3, 4), (0, 1)]
        other = [(5, 1), (2, 3), (LONG, 2)]
        before = copy.deepcopy((row, other))
        first = dot(row, other)
        self.assertEqual((row, other), before)
        self.assertEqual(dot(row, other), first)


if __name__ == "__main__":
    unittest.main()
