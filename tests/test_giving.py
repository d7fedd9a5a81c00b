"""[3.2] and the rows of surebest/giving.py in the interface; [0.1], [0.2], [0.3] of them."""

import copy
import itertools
import random
import unittest

from plain import LONG, NINES
from surebest.errors import NoTable
from surebest.giving import are_prices, given_columns, total


def plain_total(costs, found):
    found_cost = 0
    for row in range(len(costs)):
        found_cost += costs[row][found[row]]
    return found_cost


def least_total(costs):
    """The least sum of all givings, by a look at each."""
    return min(plain_total(costs, row) for row in itertools.permutations(range(len(costs[0])), len(costs)))


def drawn_table(chance, rows, columns, least, most):
    return [[chance.randint(least, most) for _ in range(columns)] for _ in range(rows)]


class GivingCase(unittest.TestCase):
    def assert_given(self, costs):
        """Holds the prices against every place of the table, and gives the sum."""
        before = copy.deepcopy(costs)
        told = given_columns(costs)
        self.assertEqual(costs, before)
        self.assertIs(type(told), tuple)
        self.assertEqual([type(part) for part in told], [list, list, list])
        found, rows, columns = told
        self.assertEqual([len(part) for part in told], [len(costs), len(costs), len(costs[0])])
        self.assertTrue(all(type(number) is int for part in told for number in part), told)
        self.assertEqual(len(set(found)), len(found))
        self.assertTrue(set(found) <= set(range(len(costs[0]))), told)
        for row, column in itertools.product(range(len(costs)), range(len(costs[0]))):
            self.assertLessEqual(rows[row] + columns[column], costs[row][column], (costs, told))
        for row, column in enumerate(found):
            self.assertEqual(rows[row] + columns[column], costs[row][column], (costs, told))
        for column, price in enumerate(columns):
            self.assertLessEqual(price, 0)
            if column not in found:
                self.assertEqual(price, 0, (costs, told))
        self.assertEqual(sum(rows) + sum(columns), plain_total(costs, found))
        self.assertEqual(total(costs, found), plain_total(costs, found))
        self.assertIs(are_prices(costs, rows, columns), True)
        self.assertEqual(costs, before)
        return plain_total(costs, found)


class GivenColumnsTest(GivingCase):
    def test_written_out(self):
        self.assertEqual(self.assert_given([[4, 1, 3], [2, 0, 5], [3, 2, 2]]), 5)
        self.assertEqual(given_columns([[4, 1, 3], [2, 0, 5], [3, 2, 2]])[0], [1, 0, 2])
        self.assertEqual(self.assert_given([[1, 2], [3, 5]]), 5)
        self.assertEqual(given_columns([[1, 2], [3, 5]])[0], [1, 0])
        self.assertEqual(self.assert_given([[1, 2, 9], [1, 9, 9]]), 3)
        self.assertEqual(given_columns([[1, 2, 9], [1, 9, 9]])[0], [1, 0])

    def test_one_place(self):
        for cost in [0, 1, -1, 7, NINES, -NINES]:
            self.assertEqual(self.assert_given([[cost]]), cost)
            found, rows, columns = given_columns([[cost]])
            self.assertEqual((found, rows[0] + columns[0]), ([0], cost))

    def test_one_row(self):
        self.assertEqual(self.assert_given([[5, 3, 4, 9, 8, 2, 7, 6]]), 2)
        self.assertEqual(given_columns([[5, 3, 4, 9, 8, 2, 7, 6]]), ([5], [2], [0] * 8))
        for columns in range(1, 9):
            for least in range(columns):
                costs = [[3 if column == least else 4 for column in range(columns)]]
                self.assertEqual(self.assert_given(costs), 3)
                self.assertEqual(given_columns(costs)[0], [least])

    def test_eight_rows_and_eight_columns(self):
        chance = random.Random(33)
        for most in [1, 9, 1000]:
            for _ in range(20):
                self.assert_given(drawn_table(chance, 8, 8, -most, most))

    def test_a_hidden_best_giving(self):
        """Costs drawn above prices, and just these for one giving: its sum is then the least."""
        chance = random.Random(34)
        for many in range(1, 9):
            for _ in range(20):
                rows = [chance.randint(-50, 50) for _ in range(many)]
                columns = [chance.randint(-50, 50) for _ in range(many)]
                given = chance.sample(range(many), many)
                costs = [[rows[at] + columns[to] + chance.randint(0, 5) for to in range(many)] for at in range(many)]
                for at, to in enumerate(given):
                    costs[at][to] = rows[at] + columns[to]
                self.assertEqual(self.assert_given(costs), sum(rows) + sum(columns))

    def test_like_costs(self):
        for columns in range(1, 9):
            for rows in range(1, columns + 1):
                for cost in [0, 4, -4]:
                    self.assertEqual(self.assert_given([[cost] * columns for _ in range(rows)]), cost * rows)

    def test_like_rows_and_like_columns(self):
        for many in range(1, 9):
            self.assertEqual(self.assert_given([list(range(8)) for _ in range(many)]), many * (many - 1) // 2)
            self.assertEqual(self.assert_given([[row] * 8 for row in range(many)]), many * (many - 1) // 2)

    def test_products(self):
        """Each row wants the first columns, but the last one most of all."""
        for many in range(1, 9):
            costs = [[(row + 1) * (column + 1) for column in range(many)] for row in range(many)]
            self.assertEqual(given_columns(costs)[0], list(range(many))[::-1])
            self.assert_given(costs)
            self.assert_given(costs[::-1])
            self.assert_given([row[::-1] for row in costs])

    def test_costs_below_nought(self):
        self.assertEqual(self.assert_given([[-1, -2], [-3, -5]]), -6)
        self.assertEqual(self.assert_given([[-1, -5, -3]]), -5)
        self.assertEqual(given_columns([[-1, -5, -3]]), ([1], [-5], [0, 0, 0]))

    def test_costs_of_a_hundred_figures(self):
        self.assertEqual(self.assert_given([[LONG, LONG + 1], [LONG, LONG + 2]]), 2 * LONG + 1)
        self.assertEqual(self.assert_given([[NINES, -NINES], [-NINES, NINES]]), -2 * NINES)
        chance = random.Random(35)
        for rows, columns in [(1, 8), (4, 8), (8, 8)]:
            for _ in range(5):
                self.assert_given(drawn_table(chance, rows, columns, -NINES, NINES))

    def test_somewhat_longer_costs_are_not_refused(self):
        self.assertEqual(self.assert_given([[10 ** 120, -(10 ** 110)]]), -(10 ** 110))

    def test_all_small_tables(self):
        for rows, columns, numbers in [(1, 3, 4), (2, 2, 4), (2, 3, 3), (3, 3, 2)]:
            for row in itertools.product(range(numbers), repeat=rows * columns):
                costs = [[cost - 1 for cost in row[at * columns:at * columns + columns]] for at in range(rows)]
                self.assertEqual(self.assert_given(costs), least_total(costs))

    def test_drawn_tables(self):
        chance = random.Random(36)
        for columns in range(1, 7):
            for rows in range(1, columns + 1):
                for least, most in [(0, 1), (-3, 3), (-100, -1), (0, 1000)]:
                    for _ in range(3):
                        costs = drawn_table(chance, rows, columns, least, most)
                        self.assertEqual(self.assert_given(costs), least_total(costs))

    def test_fewer_rows_than_eight_columns(self):
        chance = random.Random(37)
        for rows in range(1, 9):
            for most in [1, 3, 50]:
                for _ in range(5):
                    self.assert_given(drawn_table(chance, rows, 8, 0, most))


class RefusedTest(unittest.TestCase):
    def assert_refused(self, costs):
        before = copy.deepcopy(costs)
        with self.assertRaises(NoTable, msg=costs):
            given_columns(costs)
        self.assertEqual(costs, before)

    def test_no_rows(self):
        self.assert_refused([])

    def test_no_columns(self):
        for rows in [1, 2, 8, 9]:
            self.assert_refused([[] for _ in range(rows)])

    def test_more_than_eight_columns(self):
        for columns in [9, 10, 50]:
            for rows in [1, 2, 8, 9]:
                self.assert_refused([[1] * columns for _ in range(rows)])

    def test_more_rows_than_columns(self):
        for columns in range(1, 9):
            for rows in [columns + 1, columns + 2, 20]:
                self.assert_refused([[1] * columns for _ in range(rows)])

    def test_rows_that_are_not_as_long(self):
        for columns in range(1, 9):
            for rows in range(2, columns + 1):
                for at in range(rows):
                    for length in [0, 1, columns - 1, columns + 1, 9]:
                        if length != columns:
                            costs = [[1] * columns for _ in range(rows)]
                            costs[at] = [1] * length
                            self.assert_refused(costs)


class TotalTest(unittest.TestCase):
    def test_written_out(self):
        costs = [[1, 2, 4], [8, 16, 32]]
        for found, cost in [([0, 1], 17), ([1, 0], 10), ([2, 0], 12), ([0, 2], 33), ([2, 1], 20)]:
            told = total(costs, found)
            self.assertEqual(told, cost)
            self.assertIs(type(told), int)
        self.assertEqual(total([[-7]], [0]), -7)
        self.assertEqual(total([[NINES, -1], [NINES, 0]], [0, 0]), 2 * NINES)


class ArePricesTest(unittest.TestCase):
    def test_just_at_the_costs_and_just_above(self):
        costs = [[3, 5, 4], [1, 3, 2]]
        rows = [5, 3]
        columns = [-2, 0, -1]
        self.assertIs(are_prices(costs, rows, columns), True)
        for row in range(2):
            self.assertIs(are_prices(costs, [price + (at == row) for at, price in enumerate(rows)], columns), False)
            for column in range(3):
                lower = copy.deepcopy(costs)
                lower[row][column] -= 1
                self.assertIs(are_prices(lower, rows, columns), False)
        for column in [0, 2]:
            higher = [price + (at == column) for at, price in enumerate(columns)]
            self.assertIs(are_prices(costs, rows, higher), False)

    def test_no_column_has_a_price_above_nought(self):
        for column in range(3):
            columns = [0, 0, 0]
            self.assertIs(are_prices([[9, 9, 9]], [0], columns), True)
            columns[column] = 1
            self.assertIs(are_prices([[9, 9, 9]], [0], columns), False)
            self.assertIs(are_prices([[9, 9, 9]], [-9], columns), False)

    def test_rows_may_have_prices_above_and_below_nought(self):
        for price, told in [(-NINES, True), (-1, True), (0, True), (1, True), (2, False), (NINES, False)]:
            self.assertIs(are_prices([[1]], [price], [0]), told)
        self.assertIs(are_prices([[1]], [NINES], [1 - NINES]), True)
        self.assertIs(are_prices([[1]], [NINES], [2 - NINES]), False)

    def test_prices_need_not_come_up_to_the_costs(self):
        self.assertIs(are_prices([[1, 2], [3, 4]], [-5, -5], [-5, -5]), True)

    def test_one_price_for_each_row_and_column(self):
        costs = [[5, 5], [5, 5]]
        for rows, columns in [([0], [0, 0]), ([0, 0, 0], [0, 0]), ([0, 0], [0]), ([0, 0], [0, 0, 0]), ([], [])]:
            self.assertIs(are_prices(costs, rows, columns), False)

    def test_all_small_prices(self):
        costs = [[0, 1], [-1, 1]]
        for prices in itertools.product(range(-2, 3), repeat=4):
            rows = list(prices[:2])
            columns = list(prices[2:])
            paid = all(rows[at] + columns[to] <= costs[at][to] for at in range(2) for to in range(2))
            self.assertIs(are_prices(costs, rows, columns), paid and max(columns) <= 0)


class HandedInTest(unittest.TestCase):
    def test_lists_that_are_told_are_new_ones(self):
        handed = [[4, 1, 3], [2, 0, 5]]
        first = given_columns(handed)
        again = given_columns(handed)
        self.assertEqual(first, again)
        for row in first:
            row[0] = 99
            row.append(99)
        self.assertEqual(given_columns(handed), again)
        self.assertEqual(handed, [[4, 1, 3], [2, 0, 5]])

    def test_nothing_is_kept(self):
        costs = [[4, 1]]
        told = given_columns(costs)
        costs[0][0] = -5
        self.assertEqual(told, ([1], [1], [0, 0]))
        self.assertEqual(given_columns(costs), ([0], [-5], [0, 0]))

    def test_what_was_handed_in_stays(self):
        handed = ([[4, 1], [2, 2]], [1, 1], [0, -1], [0, 1])
        before = copy.deepcopy(handed)
        self.assertIs(are_prices(handed[0], handed[1], handed[2]), True)
        self.assertEqual(total(handed[0], handed[3]), 6)
        self.assertEqual(handed, before)


if __name__ == "__main__":
    unittest.main()
