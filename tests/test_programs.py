"""[4.1], [4.2] and the rows of surebest/programs.py in the interface; [0.1], [0.2], [0.3] of them."""

import copy
import itertools
import math
import random
import unittest
from fractions import Fraction

from plain import LONG, NINES
from surebest.errors import NoTable
from surebest.programs import are_prices_of, keeps, solved


def whole(numbers):
    """Whole numbers as ratios."""
    return [(number, 1) for number in numbers]


def table(rows):
    return [whole(row) for row in rows]


def drawn_ratio(chance, least, most, under):
    drawn = Fraction(chance.randint(least, most), chance.randint(1, under))
    return (drawn.numerator, drawn.denominator)


def drawn_program(chance, rows, parts, least, most, under):
    """`least` and `most` hold two numbers each: for the rows and the goal, and for the limits."""
    return (
        [[drawn_ratio(chance, least[0], most[0], under) for _ in range(parts)] for _ in range(rows)],
        [drawn_ratio(chance, least[1], most[1], under) for _ in range(rows)],
        [drawn_ratio(chance, least[0], most[0], under) for _ in range(parts)],
    )


def fractions_of(numbers):
    return [Fraction(*number) for number in numbers]


def product(row, other):
    """The sum of products, which refuses rows that are not as long."""
    return sum((one * another for one, another in zip(row, other, strict=True)), Fraction(0))


def plain_keeps(rows, limits, parts):
    sums = [product(fractions_of(row), fractions_of(parts)) for row in rows]
    within = all(paid <= limit for paid, limit in zip(sums, fractions_of(limits), strict=True))
    return within and all(part >= 0 for part in fractions_of(parts))


def plain_sums(rows, many, prices):
    """For each part the sum of the rows' numbers there times the prices."""
    return [product([Fraction(*row[part]) for row in rows], fractions_of(prices)) for part in range(many)]


def plain_pays(rows, goal, prices):
    paid = plain_sums(rows, len(goal), prices)
    enough = all(one >= least for one, least in zip(paid, fractions_of(goal), strict=True))
    return enough and all(price >= 0 for price in fractions_of(prices))


class ProgramsCase(unittest.TestCase):
    def assert_ratios(self, numbers, many):
        self.assertIs(type(numbers), list)
        self.assertEqual(len(numbers), many)
        for number in numbers:
            self.assertIs(type(number), tuple)
            self.assertEqual([type(part) for part in number], [int, int])
            self.assertGreater(number[1], 0)
            self.assertEqual(math.gcd(*number), 1)

    def assert_best(self, rows, limits, goal, told):
        self.assert_ratios(told[1], len(goal))
        self.assert_ratios(told[2], len(rows))
        self.assertTrue(plain_keeps(rows, limits, told[1]))
        self.assertTrue(plain_pays(rows, goal, told[2]))
        self.assertEqual(
            product(fractions_of(goal), fractions_of(told[1])), product(fractions_of(limits), fractions_of(told[2]))
        )
        self.assertIs(keeps(rows, limits, told[1]), True)
        self.assertIs(are_prices_of(rows, goal, told[2]), True)

    def assert_none(self, rows, limits, goal, told):
        self.assert_ratios(told[1], len(rows))
        self.assertTrue(plain_pays(rows, whole([0] * len(goal)), told[1]))
        self.assertLess(product(fractions_of(limits), fractions_of(told[1])), 0)

    def assert_endless(self, rows, limits, goal, told):
        self.assert_ratios(told[1], len(goal))
        self.assert_ratios(told[2], len(goal))
        self.assertTrue(plain_keeps(rows, limits, told[1]))
        self.assertTrue(plain_keeps(rows, whole([0] * len(rows)), told[2]))
        self.assertGreater(product(fractions_of(goal), fractions_of(told[2])), 0)
        self.assertIs(keeps(rows, limits, told[1]), True)

    def assert_solved(self, rows, limits, goal):
        """Holds parts, prices and rays by plain products, and gives the answer."""
        before = copy.deepcopy((rows, limits, goal))
        told = solved(rows, limits, goal)
        self.assertEqual((rows, limits, goal), before)
        self.assertIs(type(told), tuple)
        self.assertIs(type(told[0]), str)
        self.assertIn((told[0], len(told)), [("best", 3), ("none", 2), ("endless", 3)])
        if told[0] == "best":
            self.assert_best(rows, limits, goal, told)
        elif told[0] == "none":
            self.assert_none(rows, limits, goal, told)
        else:
            self.assert_endless(rows, limits, goal, told)
        self.assertEqual((rows, limits, goal), before)
        return told

    def assert_kind(self, kind, rows, limits, goal):
        """As assert_solved, of whole numbers; gives the goal's sum where there is a best one."""
        told = self.assert_solved(table(rows), whole(limits), whole(goal))
        self.assertEqual(told[0], kind, (rows, limits, goal))
        if kind == "best":
            return product([Fraction(number) for number in goal], fractions_of(told[1]))
        return None


class SolvedTest(ProgramsCase):
    def test_best_written_out(self):
        self.assertEqual(self.assert_kind("best", [[1]], [5], [2]), 10)
        self.assertEqual(solved([[(1, 1)]], [(5, 1)], [(2, 1)]), ("best", [(5, 1)], [(2, 1)]))
        self.assertEqual(self.assert_kind("best", [[1, 1], [1, 3]], [4, 6], [3, 2]), 12)
        self.assertEqual(self.assert_kind("best", [[2, 1], [1, 2]], [2, 2], [1, 1]), Fraction(4, 3))
        self.assertEqual(
            solved(table([[2, 1], [1, 2]]), whole([2, 2]), whole([1, 1])),
            ("best", [(2, 3), (2, 3)], [(1, 3), (1, 3)]),
        )
        self.assertEqual(self.assert_kind("best", [[2, 3, 1], [4, 1, 2], [3, 4, 2]], [5, 11, 8], [5, 4, 3]), 13)

    def test_best_of_ratios(self):
        told = self.assert_solved([[(2, 3)]], [(5, 7)], [(3, 4)])
        self.assertEqual(told, ("best", [(15, 14)], [(9, 8)]))
        told = self.assert_solved([[(1, 2), (1, 3)], [(1, 5), (1, 7)]], [(1, 11), (1, 13)], [(3, 17), (2, 19)])
        self.assertEqual(told[0], "best")

    def test_a_goal_that_nothing_raises(self):
        self.assertEqual(solved([[(1, 1)]], [(5, 1)], [(-2, 1)]), ("best", [(0, 1)], [(0, 1)]))
        self.assertEqual(solved([[(1, 1)]], [(5, 1)], [(0, 1)])[0], "best")
        self.assertEqual(self.assert_kind("best", [[1, 2], [3, 4]], [5, 6], [-1, 0]), 0)

    def test_none_written_out(self):
        told = self.assert_solved([[(1, 1)]], [(-1, 1)], [(1, 1)])
        self.assertEqual(told[0], "none")
        self.assert_kind("none", [[1], [-1]], [1, -2], [1])
        self.assert_kind("none", [[1], [-1]], [1, -2], [-1])
        self.assert_kind("none", [[1, 1], [-1, 0], [0, -1]], [3, -2, -2], [1, 1])
        self.assert_kind("best", [[1, 1], [-1, 0], [0, -1]], [4, -2, -2], [1, 1])

    def test_endless_written_out(self):
        told = self.assert_solved([[(-1, 1)]], [(5, 1)], [(2, 1)])
        self.assertEqual(told[0], "endless")
        self.assert_kind("endless", [[1, -1]], [3], [1, 0])
        self.assert_kind("endless", [[1, -1], [-1, 1]], [3, 3], [1, 0])
        self.assert_kind("best", [[1, -1], [-1, 1]], [3, 3], [1, -1])
        self.assert_kind("endless", [[0, 1]], [3], [1, 1])

    def test_endless_far_from_nought(self):
        """Limits below 0 keep the parts off nought, so that they have to be looked for."""
        self.assert_kind("endless", [[-1]], [-5], [1])
        self.assert_kind("endless", [[-1, 0], [0, -1]], [-5, -7], [1, -1])
        self.assert_kind("endless", [[-1, -1], [1, -1]], [-5, -7], [1, 1])
        self.assert_kind("endless", [[-1, -2, 3], [1, 0, -1], [0, -1, 0]], [-5, -7, -1], [1, 1, -1])

    def test_a_ray_without_parts_is_none(self):
        self.assert_kind("none", [[1, 0], [0, -1]], [-1, 0], [0, 1])
        self.assert_kind("none", [[0, 1], [-1, 0]], [-1, 0], [1, 0])
        self.assert_kind("none", [[0, 0]], [-1], [1, 1])
        self.assert_kind("none", [[1, 0, 0], [-1, 0, 0]], [1, -2], [1, 1, 1])

    def test_no_rows(self):
        for many in range(1, 7):
            for numbers in itertools.product([-1, 0], repeat=many):
                told = self.assert_solved([], [], whole(numbers))
                self.assertEqual((told[0], told[2]), ("best", []))
            for at in range(many):
                goal = whole([-3] * many)
                goal[at] = (1, 9)
                told = self.assert_solved([], [], goal)
                self.assertEqual(told[0], "endless")

    def test_rows_of_noughts(self):
        for many in [1, 2, 6]:
            noughts = [[0] * many]
            for limit in [0, 1, 7]:
                self.assert_kind("best", noughts, [limit], [0] * many)
                self.assert_kind("best", noughts, [limit], [-1] * many)
                self.assert_kind("endless", noughts, [limit], [1] * many)
            self.assert_kind("none", noughts, [-1], [0] * many)
            self.assert_kind("none", noughts, [-1], [1] * many)
            self.assert_kind("none", noughts * 6, [0, 0, 0, 0, 0, -1], [1] * many)
            self.assert_kind("best", noughts * 6, [0] * 6, [0] * many)
        self.assertEqual(self.assert_kind("best", [[0, 0], [1, 1]], [0, 3], [2, 1]), 6)

    def test_limits_of_nought(self):
        self.assertEqual(self.assert_kind("best", [[1, 1]], [0], [5, 3]), 0)
        self.assertEqual(self.assert_kind("best", [[1, -1], [-1, 2]], [0, 0], [1, 1]), 0)
        self.assert_kind("endless", [[1, -1], [-1, 1]], [0, 0], [1, 1])
        self.assertEqual(self.assert_kind("best", [[1, -1], [-1, 1]], [0, 0], [1, -1]), 0)
        self.assertEqual(self.assert_kind("best", [[1] * 6] * 6, [0] * 6, [1] * 6), 0)

    def test_limits_below_nought(self):
        self.assertEqual(self.assert_kind("best", [[-1]], [-5], [-2]), -10)
        self.assertEqual(self.assert_kind("best", [[-1, -1], [1, 0], [0, 1]], [-3, 2, 2], [-1, -2]), -4)
        self.assertEqual(self.assert_kind("best", [[-1, 0], [1, 0]], [-2, 2], [1, -1]), 2)
        for limit in range(-6, 0):
            self.assertEqual(self.assert_kind("best", [[-1] * 6], [limit], [-1] * 6), limit)
            self.assert_kind("none", [[1] * 6], [limit], [-1] * 6)

    def test_one_number_from_both_sides(self):
        for number in range(-3, 4):
            kind = "best" if number >= 0 else "none"
            self.assert_kind(kind, [[1], [-1]], [number, -number], [1])
            self.assert_kind("none", [[1], [-1]], [number, -number - 1], [1])

    def test_rows_that_go_round_in_rings(self):
        """Ties through which greater steps first, or whichever stands first, come back to where they were."""
        rows = [[(1, 4), (-60, 1), (-1, 25), (9, 1)], [(1, 2), (-90, 1), (-1, 50), (3, 1)], whole([0, 0, 1, 0])]
        told = self.assert_solved(rows, whole([0, 0, 1]), [(3, 4), (-150, 1), (1, 50), (-6, 1)])
        self.assertEqual(told[0], "best")
        self.assertEqual(told[1][2], (1, 1))
        rows = [[(1, 2), (-11, 2), (-5, 2), (9, 1)], [(1, 2), (-3, 2), (-1, 2), (1, 1)], whole([1, 0, 0, 0])]
        told = self.assert_solved(rows, whole([0, 0, 1]), whole([10, -57, -9, -24]))
        self.assertEqual((told[0], told[1][0]), ("best", (1, 1)))

    def test_many_ties(self):
        for many in range(1, 7):
            for rows in range(1, 7):
                for limit in [0, 1]:
                    likes = [[1] * many] * rows
                    self.assertEqual(self.assert_kind("best", likes, [limit] * rows, [1] * many), limit)
                    self.assert_kind("none", likes, [limit] * (rows - 1) + [-1], [1] * many)
                    backwards = [[-1] * many] * rows
                    self.assert_kind("endless", backwards, [-limit] * rows, [1] * many)
                    self.assertEqual(self.assert_kind("best", backwards, [-limit] * rows, [-1] * many), -limit)

    def test_a_narrow_box(self):
        """Bounds, each so steep that steps from corner to corner can come through very many."""
        for many in range(1, 7):
            rows = [[2 * 10 ** (at - to) for to in range(at)] + [1] + [0] * (many - at - 1) for at in range(many)]
            limits = [100 ** at for at in range(many)]
            goal = [10 ** (many - at - 1) for at in range(many)]
            for order in [1, -1]:
                told = self.assert_kind("best", [row[::order] for row in rows], limits, goal[::order])
                self.assertEqual(told, 100 ** (many - 1))

    def test_six_rows_and_six_parts(self):
        ones = [[1 if at == to else 0 for to in range(6)] for at in range(6)]
        self.assertEqual(self.assert_kind("best", ones, [1, 2, 3, 4, 5, 6], [6, 5, 4, 3, 2, 1]), 56)
        chance = random.Random(41)
        found = {"best": 0, "none": 0, "endless": 0}
        for most in [1, 2, 9, 1000]:
            for least in [(-most, -most), (-most, 0), (0, 0), (0, -1), (-1, -1), (-1, -most)]:
                for _ in range(12):
                    rows, limits, goal = drawn_program(chance, 6, 6, least, (most, most), chance.choice([1, 6]))
                    found[self.assert_solved(rows, limits, goal)[0]] += 1
        self.assertGreater(min(found.values()), 20)

    def test_ratios_of_great_numbers(self):
        chance = random.Random(42)
        found = {"best": 0, "none": 0, "endless": 0}
        for rows, parts in [(1, 1), (1, 6), (6, 1), (3, 3), (6, 6)]:
            for least in [(0, 0), (-NINES, 0), (-NINES, -NINES)]:
                for _ in range(3):
                    drawn = drawn_program(chance, rows, parts, least, (NINES, NINES), NINES)
                    found[self.assert_solved(*drawn)[0]] += 1
        self.assertGreater(min(found.values()), 2)

    def test_great_numbers_that_lie_near_one_another(self):
        near = (LONG + 1, LONG)
        self.assertEqual(solved([[near]], [near], [(1, 1)])[1:], ([(1, 1)], [(LONG, LONG + 1)]))
        self.assert_kind("none", [[1], [-1]], [LONG, -LONG - 1], [1])
        self.assertEqual(self.assert_kind("best", [[1], [-1]], [LONG, -LONG], [1]), LONG)
        self.assertEqual(self.assert_solved([whole([1]), whole([-1])], [(1, NINES), (-1, LONG)], [(1, 1)])[0], "none")
        self.assertEqual(self.assert_solved([whole([1]), whole([-1])], [(1, LONG), (-1, NINES)], [(1, 1)])[0], "best")

    def test_somewhat_greater_numbers_are_not_refused(self):
        long = 10 ** 120 + 1
        self.assertEqual(solved([[(1, long)]], [(long, 1)], [(1, 1)]), ("best", [(long ** 2, 1)], [(long, 1)]))

    def test_all_small_programs(self):
        found = {"best": 0, "none": 0, "endless": 0}
        for rows, parts in [(1, 1), (1, 2), (2, 1), (2, 2)]:
            for numbers in itertools.product([-1, 0, 1], repeat=rows * parts + rows + parts):
                cells = [list(numbers[at * parts:at * parts + parts]) for at in range(rows)]
                limits = list(numbers[rows * parts:rows * parts + rows])
                goal = list(numbers[rows * parts + rows:])
                found[self.assert_solved(table(cells), whole(limits), whole(goal))[0]] += 1
        self.assertGreater(min(found.values()), 1000)

    def test_drawn_programs(self):
        chance = random.Random(43)
        found = {"best": 0, "none": 0, "endless": 0}
        for rows in range(7):
            for parts in range(1, 7):
                for most in [1, 3, 50]:
                    for least in [(-most, -most), (-most, 0), (0, -1), (-1, -most)]:
                        for under in [1, 5]:
                            drawn = drawn_program(chance, rows, parts, least, (most, most), under)
                            found[self.assert_solved(*drawn)[0]] += 1
        self.assertGreater(min(found.values()), 150)

    def test_programs_drawn_round_parts_have_parts(self):
        """Limits that some drawn parts just keep: so it is never told that none do."""
        chance = random.Random(44)
        for _ in range(200):
            rows, _, goal = drawn_program(chance, 6, 6, (-9, 0), (9, 0), 3)
            parts = [Fraction(chance.choice([0, chance.randint(0, 20)]), chance.randint(1, 5)) for _ in range(6)]
            sums = [product(fractions_of(row), parts) for row in rows]
            limits = [(number.numerator, number.denominator) for number in sums]
            told = self.assert_solved(rows, limits, goal)
            self.assertNotEqual(told[0], "none")
            if told[0] == "best":
                best = product(fractions_of(goal), fractions_of(told[1]))
                self.assertGreaterEqual(best, product(fractions_of(goal), parts))


class RefusedTest(unittest.TestCase):
    def assert_refused(self, rows, limits, goal):
        before = copy.deepcopy((rows, limits, goal))
        with self.assertRaises(NoTable, msg=(rows, limits, goal)):
            solved(rows, limits, goal)
        self.assertEqual((rows, limits, goal), before)

    def test_a_goal_of_no_parts(self):
        self.assert_refused([], [], [])
        self.assert_refused([[]], [(1, 1)], [])
        self.assert_refused([[]] * 6, whole([-1] * 6), [])

    def test_more_than_six_parts(self):
        for many in [7, 8, 30]:
            self.assert_refused([], [], whole([1] * many))
            self.assert_refused([], [], whole([-1] * many))
            self.assert_refused([whole([1] * many)], [(1, 1)], whole([1] * many))

    def test_more_than_six_rows(self):
        for many in [7, 8, 30]:
            for number in [1, -1]:
                self.assert_refused([[(1, 1)]] * many, whole([number] * many), [(1, 1)])
                self.assert_refused([whole([1] * 6)] * many, whole([number] * many), whole([1] * 6))

    def test_limits_that_are_not_as_many(self):
        for many in range(7):
            for limits in range(9):
                if limits != many:
                    self.assert_refused([whole([1, 1])] * many, whole([1] * limits), whole([1, 1]))
                    self.assert_refused([whole([1, 1])] * many, whole([-1] * limits), whole([-1, 1]))

    def test_rows_that_are_not_as_long_as_the_goal(self):
        for parts in range(1, 7):
            for rows in range(1, 7):
                for at in range(rows):
                    for length in [0, parts - 1, parts + 1, 7]:
                        cells = [whole([1] * parts) for _ in range(rows)]
                        cells[at] = whole([1] * length)
                        self.assert_refused(cells, whole([1] * rows), whole([1] * parts))
                self.assert_refused([whole([1] * (parts + 1))] * rows, whole([1] * rows), whole([1] * parts))


class KeepsTest(unittest.TestCase):
    def test_just_at_the_limit_and_just_beyond(self):
        rows = table([[1, 2], [3, -1]])
        self.assertIs(keeps(rows, whole([5, 1]), whole([1, 2])), True)
        self.assertIs(keeps(rows, whole([9, 9]), whole([1, 2])), True)
        self.assertIs(keeps(rows, whole([4, 1]), whole([1, 2])), False)
        self.assertIs(keeps(rows, whole([5, 0]), whole([1, 2])), False)
        self.assertIs(keeps(rows, [(NINES, NINES - 1), (5, 1)], [(1, 1), (0, 1)]), True)
        self.assertIs(keeps(rows, [(NINES - 1, NINES), (5, 1)], [(1, 1), (0, 1)]), False)

    def test_no_part_is_below_nought(self):
        for parts in [[0, 0], [1, 0], [0, 7]]:
            self.assertIs(keeps(table([[1, 1]]), whole([9]), whole(parts)), True)
        for parts in [[-1, 0], [0, -1], [-1, -1], [5, -1]]:
            self.assertIs(keeps(table([[1, 1]]), whole([9]), whole(parts)), False)
        self.assertIs(keeps(table([[1, 1]]), whole([9]), [(-1, NINES), (1, 1)]), False)

    def test_no_rows(self):
        self.assertIs(keeps([], [], whole([0])), True)
        self.assertIs(keeps([], [], whole([1, 5, NINES])), True)
        self.assertIs(keeps([], [], whole([1, -5, 3])), False)

    def test_limits_below_nought(self):
        self.assertIs(keeps(table([[-1]]), whole([-3]), whole([3])), True)
        self.assertIs(keeps(table([[-1]]), whole([-3]), whole([2])), False)
        self.assertIs(keeps(table([[1]]), whole([-1]), whole([0])), False)
        self.assertIs(keeps(table([[0]]), whole([-1]), whole([0])), False)

    def test_as_many_parts_as_a_row_is_long(self):
        for parts in [[], [0], [0, 0, 0]]:
            self.assertIs(keeps(table([[1, 1]]), whole([9]), whole(parts)), False)
            self.assertIs(keeps(table([[1, 1], [1, 1]]), whole([9, 9]), whole(parts)), False)

    def test_drawn_parts(self):
        chance = random.Random(45)
        found = {True: 0, False: 0}
        for _ in range(800):
            rows, limits, parts = drawn_program(
                chance, chance.randint(0, 3), chance.randint(1, 3), (chance.choice([-1, 0]), -1), (3, 9), 2
            )
            told = keeps(rows, limits, parts)
            self.assertIs(told, plain_keeps(rows, limits, parts))
            found[told] += 1
        self.assertGreater(min(found.values()), 100)


class ArePricesOfTest(unittest.TestCase):
    def test_just_enough_and_just_too_little(self):
        rows = table([[1, 2], [3, -1]])
        self.assertIs(are_prices_of(rows, whole([7, 0]), whole([1, 2])), True)
        self.assertIs(are_prices_of(rows, whole([-9, -9]), whole([1, 2])), True)
        self.assertIs(are_prices_of(rows, whole([8, 0]), whole([1, 2])), False)
        self.assertIs(are_prices_of(rows, whole([7, 1]), whole([1, 2])), False)
        self.assertIs(are_prices_of([[(1, 3)]], [(1, 6)], [(1, 2)]), True)
        self.assertIs(are_prices_of([[(1, 3)]], [(1, 6)], [(NINES - 1, 2 * NINES)]), False)

    def test_no_price_is_below_nought(self):
        for prices in [[0, 0], [1, 0], [0, 7]]:
            self.assertIs(are_prices_of(table([[1], [1]]), whole([-9]), whole(prices)), True)
        for prices in [[-1, 0], [0, -1], [-1, -1], [5, -1]]:
            self.assertIs(are_prices_of(table([[1], [1]]), whole([-9]), whole(prices)), False)
        self.assertIs(are_prices_of(table([[1], [1]]), whole([-9]), [(1, 1), (-1, NINES)]), False)

    def test_no_rows(self):
        for goal, told in [([0], True), ([-1, 0], True), ([1], False), ([-1, 1], False), ([0, 0, 0], True)]:
            self.assertIs(are_prices_of([], whole(goal), []), told)

    def test_columns_are_no_rows(self):
        rows = table([[1, 0], [5, 1]])
        self.assertIs(are_prices_of(rows, whole([5, 1]), whole([0, 1])), True)
        self.assertIs(are_prices_of(rows, whole([1, 5]), whole([1, 0])), False)

    def test_one_price_for_each_row(self):
        for prices in [[], [0], [0, 0, 0]]:
            self.assertIs(are_prices_of(table([[1], [1]]), whole([-9]), whole(prices)), False)
        self.assertIs(are_prices_of([], whole([-9]), whole([0])), False)

    def test_drawn_prices(self):
        chance = random.Random(46)
        found = {True: 0, False: 0}
        for _ in range(800):
            rows, prices, goal = drawn_program(
                chance, chance.randint(0, 3), chance.randint(1, 3), (-2, chance.choice([-1, 0])), (3, 9), 2
            )
            told = are_prices_of(rows, goal, prices)
            self.assertIs(told, plain_pays(rows, goal, prices))
            found[told] += 1
        self.assertGreater(min(found.values()), 100)


class HandedInTest(unittest.TestCase):
    def test_lists_that_are_told_are_new_ones(self):
        for rows, limits, goal in [([[1]], [5], [2]), ([[1]], [-5], [2]), ([[-1]], [5], [2]), ([[0]], [0], [0])]:
            handed = (table(rows), whole(limits), whole(goal))
            before = copy.deepcopy(handed)
            first = solved(*handed)
            again = solved(*handed)
            self.assertEqual(first, again)
            for row in first[1:]:
                row[0] = (99, 1)
                row.append((99, 1))
            self.assertEqual(solved(*handed), again)
            self.assertEqual(handed, before)

    def test_parts_and_ray_are_lists_of_their_own(self):
        told = solved([], [], whole([1]))
        told[1].append((99, 1))
        self.assertEqual(told, ("endless", [(0, 1), (99, 1)], [(1, 1)]))

    def test_what_was_handed_in_stays(self):
        handed = (table([[1, 2]]), whole([5]), whole([1, 2]), whole([1, 1]), whole([1]))
        before = copy.deepcopy(handed)
        self.assertIs(keeps(handed[0], handed[1], handed[3]), True)
        self.assertIs(are_prices_of(handed[0], handed[2], handed[4]), True)
        self.assertEqual(handed, before)


if __name__ == "__main__":
    unittest.main()
