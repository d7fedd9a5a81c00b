"""[2.4] and the rows of surebest/differences.py in the interface; [0.1], [0.2], [0.3] of them."""

import copy
import itertools
import random
import unittest

from plain import LONG, NINES
from surebest.differences import is_ring, kept, numbers_for
from surebest.errors import NoNetwork


def plain_kept(numbers, bounds):
    return all(numbers[one] - numbers[other] <= most for one, other, most in bounds)


def plain_is_ring(bounds, ring):
    if len(ring) == 0:
        return False
    row = [bounds[at] for at in ring]
    joined = all(bound[0] == behind[1] for bound, behind in zip(row, row[1:] + row[:1]))
    return joined and sum(bound[2] for bound in row) < 0


class DifferencesCase(unittest.TestCase):
    def assert_numbers_for(self, many, bounds):
        """Holds the numbers against every bound, or the ring against its sum, and gives the answer."""
        before = copy.deepcopy(bounds)
        told = numbers_for(many, bounds)
        self.assertEqual(bounds, before)
        self.assertIs(type(told), tuple)
        self.assertEqual([type(part) for part in told], [str, list])
        for number in told[1]:
            self.assertIs(type(number), int)
        if told[0] == "ring":
            self.assertTrue(set(told[1]) <= set(range(len(bounds))))
            self.assertTrue(plain_is_ring(bounds, told[1]), (bounds, told[1]))
            self.assertIs(is_ring(bounds, told[1]), True)
        else:
            self.assertEqual(told[0], "numbers")
            self.assertEqual(len(told[1]), many)
            self.assertTrue(plain_kept(told[1], bounds), (bounds, told[1]))
            self.assertIs(kept(told[1], bounds), True)
        self.assertEqual(bounds, before)
        return told


class NumbersForTest(DifferencesCase):
    def test_written_out(self):
        told = self.assert_numbers_for(3, [(0, 1, 3), (1, 2, -2), (2, 0, 0)])
        self.assertEqual(told[0], "numbers")
        told = self.assert_numbers_for(3, [(0, 1, 3), (1, 2, -2), (2, 0, -2)])
        self.assertEqual((told[0], sorted(told[1])), ("ring", [0, 1, 2]))

    def test_the_order_of_a_ring(self):
        """Each one's first number is the other one of the next, not the other way round."""
        bounds = [(1, 0, -1), (2, 1, -1), (0, 2, -1)]
        told = self.assert_numbers_for(3, bounds)
        self.assertIn(told, [("ring", [0, 1, 2]), ("ring", [1, 2, 0]), ("ring", [2, 0, 1])])

    def test_one_way_round(self):
        """The number of the first less that of the other is bounded, not the other way round."""
        told = self.assert_numbers_for(2, [(0, 1, -5), (1, 0, 100)])
        self.assertEqual(told[0], "numbers")
        self.assertLessEqual(told[1][0] + 5, told[1][1])

    def test_no_numbers(self):
        self.assertEqual(self.assert_numbers_for(0, []), ("numbers", []))

    def test_no_bounds(self):
        for many in range(12):
            told = self.assert_numbers_for(many, [])
            self.assertEqual((told[0], len(told[1])), ("numbers", many))

    def test_bounds_between_a_number_and_itself(self):
        for most in [0, 1, NINES]:
            self.assertEqual(self.assert_numbers_for(1, [(0, 0, most)])[0], "numbers")
            self.assertEqual(self.assert_numbers_for(3, [(2, 1, -4), (1, 1, most)])[0], "numbers")
        for most in [-1, -2, -NINES]:
            self.assertEqual(self.assert_numbers_for(1, [(0, 0, most)]), ("ring", [0]))
            self.assertEqual(self.assert_numbers_for(3, [(2, 1, -4), (1, 1, most)]), ("ring", [1]))

    def test_bounds_that_stand_twice(self):
        self.assertEqual(self.assert_numbers_for(2, [(0, 1, -2)] * 14 + [(1, 0, 2)] * 15)[0], "numbers")
        self.assertEqual(self.assert_numbers_for(2, [(0, 1, -2)] * 14 + [(1, 0, 1)] * 15)[0], "ring")

    def test_rings_of_nought_and_just_below(self):
        for row in itertools.permutations([(1, 0, 4), (2, 1, -7), (0, 2, 3), (3, 0, -1)]):
            self.assertEqual(self.assert_numbers_for(4, list(row))[0], "numbers")
        for row in itertools.permutations([(1, 0, 4), (2, 1, -8), (0, 2, 3), (3, 0, -1)]):
            self.assertEqual(self.assert_numbers_for(4, list(row))[0], "ring")

    def test_mosts_of_a_hundred_figures(self):
        row = [(number + 1, number, -NINES) for number in range(10)]
        self.assertEqual(self.assert_numbers_for(11, row)[0], "numbers")
        self.assertEqual(self.assert_numbers_for(11, row + [(0, 10, NINES)])[0], "ring")
        self.assertEqual(self.assert_numbers_for(2, [(0, 1, LONG), (1, 0, -LONG)])[0], "numbers")
        self.assertEqual(self.assert_numbers_for(2, [(0, 1, LONG), (1, 0, -LONG - 1)])[0], "ring")

    def test_somewhat_longer_mosts_are_not_refused(self):
        self.assertEqual(self.assert_numbers_for(2, [(0, 1, -(10 ** 120))])[0], "numbers")

    def test_eleven_numbers_and_twenty_nine_bounds(self):
        row = [(number + 1, number, -1) for number in range(10)]
        for bounds in [row, row[::-1], row[1::2] + row[::2]]:
            loose = [(0, number % 11, 20) for number in range(18)]
            self.assertEqual(self.assert_numbers_for(11, bounds + loose + [(0, 10, 10)])[0], "numbers")
            told = self.assert_numbers_for(11, bounds + loose + [(0, 10, 9)])
            self.assertEqual((told[0], len(told[1])), ("ring", 11))

    def test_all_small_bounds(self):
        """Held against all numbers that lie near enough: with mosts of 1 at the most these are from 0 to 2."""
        kinds = [(one, other, most) for one in range(3) for other in range(3) for most in [-1, 0, 1]]
        rows = [list(row) for row in itertools.product(range(3), repeat=3)]
        for bounds in itertools.combinations_with_replacement(kinds, 3):
            bounds = list(bounds)
            can_be = any(plain_kept(row, bounds) for row in rows)
            self.assertEqual(self.assert_numbers_for(3, bounds)[0], "numbers" if can_be else "ring")

    def test_drawn_bounds(self):
        chance = random.Random(24)
        found = {"numbers": 0, "ring": 0}
        for many, length in [(1, 2), (2, 3), (3, 5), (5, 8), (8, 12), (11, 14), (11, 29)]:
            for most in [2, 20, NINES]:
                for raised in [0, most // 2, most]:
                    for _ in range(10):
                        bounds = [
                            (chance.randrange(many), chance.randrange(many), chance.randint(-most, most) + raised)
                            for _ in range(length)
                        ]
                        found[self.assert_numbers_for(many, bounds)[0]] += 1
        self.assertGreater(min(found.values()), 50)

    def test_bounds_drawn_from_numbers_can_be_kept(self):
        chance = random.Random(25)
        for many, length in [(2, 4), (5, 20), (11, 29)]:
            for _ in range(30):
                numbers = [chance.randint(-50, 50) for _ in range(many)]
                ends = [(chance.randrange(many), chance.randrange(many)) for _ in range(length)]
                bounds = [(one, other, numbers[one] - numbers[other]) for one, other in ends]
                self.assertEqual(self.assert_numbers_for(many, bounds)[0], "numbers")


class RefusedTest(DifferencesCase):
    def assert_refused(self, many, bounds):
        before = copy.deepcopy(bounds)
        with self.assertRaises(NoNetwork, msg=(many, bounds)):
            numbers_for(many, bounds)
        self.assertEqual(bounds, before)

    def test_beyond_the_sizes(self):
        for many in [12, 13, 10 ** 6, -1, -2, -NINES]:
            self.assert_refused(many, [])
        self.assert_refused(12, [(0, 1, 1)])
        for many in [1, 2, 11]:
            self.assert_refused(many, [(0, 0, 1)] * 30)
            self.assert_refused(many, [(0, 0, -1)] * 41)
            self.assertEqual(self.assert_numbers_for(many, [(0, 0, 1)] * 29)[0], "numbers")

    def test_numbers_that_are_not_there(self):
        for many in [1, 2, 11]:
            for none in [-1, -many, many, many + 1, NINES, -NINES]:
                self.assert_refused(many, [(0, none, 1)])
                self.assert_refused(many, [(none, 0, 1)])
                self.assert_refused(many, [(none, none, 1)])
                self.assert_refused(many, [(0, 0, -1)] * 28 + [(0, none, 1)])
        self.assert_refused(0, [(0, 0, 1)])


class KeptTest(unittest.TestCase):
    def test_written_out(self):
        self.assertIs(kept([], []), True)
        self.assertIs(kept([5], []), True)
        self.assertIs(kept([5, 3], [(0, 1, 2)]), True)
        self.assertIs(kept([5, 3], [(0, 1, 1)]), False)
        self.assertIs(kept([5, 3], [(1, 0, -2)]), True)
        self.assertIs(kept([5, 3], [(1, 0, -3)]), False)
        self.assertIs(kept([5, 3], [(0, 0, 0)]), True)
        self.assertIs(kept([5, 3], [(1, 1, -1)]), False)

    def test_each_bound_counts(self):
        bounds = [(0, 1, 0), (1, 2, 0), (2, 0, 0)]
        self.assertIs(kept([4, 4, 4], bounds), True)
        for numbers in [[5, 4, 4], [4, 5, 4], [4, 4, 5], [3, 4, 4]]:
            self.assertIs(kept(numbers, bounds), False)

    def test_long_numbers(self):
        self.assertIs(kept([NINES, -NINES], [(0, 1, 2 * NINES)]), True)
        self.assertIs(kept([NINES, -NINES], [(0, 1, 2 * NINES - 1)]), False)

    def test_numbers_that_are_not_there_keep_nothing(self):
        for bound in [(0, 2, 9), (2, 0, 9), (-1, 0, 9), (0, -1, 9)]:
            self.assertIs(kept([1, 1], [bound]), False)

    def test_all_small_numbers(self):
        bounds = [(0, 1, 1), (1, 0, 0), (2, 1, -1), (0, 2, 2), (1, 1, 0)]
        for numbers in itertools.product(range(-2, 3), repeat=3):
            for many in range(6):
                told = kept(list(numbers), bounds[:many])
                self.assertIs(told, plain_kept(numbers, bounds[:many]))


class IsRingTest(unittest.TestCase):
    def test_written_out(self):
        bounds = [(1, 0, -1), (2, 1, -1), (0, 2, 1), (0, 2, 2), (2, 2, -1), (2, 2, 0)]
        for ring in [[0, 1, 2], [1, 2, 0], [2, 0, 1], [4], [4, 4], [5, 4], [0, 1, 4, 3], [0, 1, 2, 0, 1, 3]]:
            self.assertIs(is_ring(bounds, ring), True, ring)
        for ring in [
            [],             # adds up to 0
            [0, 1, 3],      # adds up to 0
            [5],
            [2, 1, 0],      # the wrong way round
            [0, 1],         # not closed
            [0],
            [0, 4],         # torn
            [4, 0],
            [0, 1, 2, 4],   # torn where it closes
        ]:
            self.assertIs(is_ring(bounds, ring), False, ring)

    def test_no_bounds(self):
        self.assertIs(is_ring([], []), False)

    def test_all_short_rings(self):
        bounds = [(1, 0, -1), (2, 1, -1), (0, 2, 1), (0, 2, 2), (2, 2, -1), (2, 2, 0), (0, 1, 1), (0, 1, 0)]
        found = 0
        for many in range(5):
            for ring in itertools.product(range(len(bounds)), repeat=many):
                told = is_ring(bounds, list(ring))
                self.assertIs(told, plain_is_ring(bounds, list(ring)), ring)
                found += told
        self.assertGreater(found, 20)

    def test_long_mosts(self):
        self.assertIs(is_ring([(0, 1, NINES), (1, 0, -NINES)], [0, 1]), False)
        self.assertIs(is_ring([(0, 1, NINES - 1), (1, 0, -NINES)], [0, 1]), True)

    def test_numbers_that_are_no_bounds(self):
        for ring in [[1], [-1], [0, 1], [0, -1], [1, 0], [-1, 0]]:
            self.assertIs(is_ring([(0, 0, -1)], ring), False)
        self.assertIs(is_ring([], [0]), False)


class HandedInTest(unittest.TestCase):
    def test_lists_that_are_told_are_new_ones(self):
        for bounds in [[(0, 1, -2)], [(0, 1, -2), (1, 0, 1)]]:
            handed = list(bounds)
            first = numbers_for(2, handed)
            again = numbers_for(2, handed)
            self.assertEqual(first, again)
            first[1].append(99)
            self.assertEqual(numbers_for(2, handed), again)
            self.assertEqual(handed, bounds)

    def test_what_was_handed_in_stays(self):
        bounds = [(0, 1, -2), (1, 0, 1)]
        numbers = [3, 4]
        ring = [1, 0]
        before = copy.deepcopy((bounds, numbers, ring))
        self.assertIs(kept(numbers, bounds), False)
        self.assertIs(is_ring(bounds, ring), True)
        self.assertEqual((bounds, numbers, ring), before)


if __name__ == "__main__":
    unittest.main()
