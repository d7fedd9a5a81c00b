"""[3.1] and the rows of surebest/pairing.py in the interface; [0.1], [0.2], [0.3] of them."""

import copy
import itertools
import random
import unittest

from plain import NINES
from surebest.errors import NoNetwork
from surebest.pairing import are_apart, is_cover, paired


def plain_is_cover(pairs, cover):
    return all(cover[0].count(row) + cover[1].count(column) > 0 for row, column in pairs)


def plain_are_apart(pairs, taken):
    twos = itertools.combinations(taken, 2)
    return all(pairs[one][0] != pairs[other][0] and pairs[one][1] != pairs[other][1] for one, other in twos)


def most_apart(pairs):
    """How many pairs at the most are apart, by a look at all choices."""
    rows = [row for many in range(len(pairs) + 1) for row in itertools.combinations(range(len(pairs)), many)]
    return max(len(row) for row in rows if plain_are_apart(pairs, row))


class PairingCase(unittest.TestCase):
    def assert_paired(self, rows, columns, pairs):
        """Holds the cover against every pair and against those taken, and gives how many these are."""
        before = copy.deepcopy(pairs)
        told = paired(rows, columns, pairs)
        self.assertEqual(pairs, before)
        self.assertEqual([type(part) for part in told], [list, tuple])
        self.assertIs(type(told), tuple)
        taken, cover = told
        self.assertEqual([type(part) for part in cover], [list, list])
        for row, many in [(taken, len(pairs)), (cover[0], rows), (cover[1], columns)]:
            self.assertTrue(all(type(number) is int for number in row))
            self.assertEqual(row, sorted(set(row)))
            self.assertTrue(set(row) <= set(range(many)), told)
        self.assertTrue(plain_are_apart(pairs, taken), (pairs, told))
        self.assertTrue(plain_is_cover(pairs, cover), (pairs, told))
        self.assertEqual(len(taken), len(cover[0]) + len(cover[1]))
        self.assertIs(are_apart(pairs, taken), True)
        self.assertIs(is_cover(pairs, cover), True)
        self.assertEqual(pairs, before)
        return len(taken)


class PairedTest(PairingCase):
    def test_written_out(self):
        self.assertEqual(paired(1, 1, [(0, 0)])[0], [0])
        self.assertEqual(self.assert_paired(2, 2, [(0, 0), (1, 1)]), 2)
        self.assertEqual(self.assert_paired(3, 3, [(0, 1), (1, 1), (2, 1)]), 1)
        self.assertEqual(paired(3, 3, [(0, 1), (1, 1), (2, 1)])[1], ([], [1]))
        self.assertEqual(self.assert_paired(3, 3, [(1, 0), (1, 1), (1, 2)]), 1)
        self.assertEqual(paired(3, 3, [(1, 0), (1, 1), (1, 2)])[1], ([1], []))
        self.assertEqual(self.assert_paired(4, 3, [(0, 2), (1, 2), (2, 0), (2, 1), (3, 2)]), 2)
        self.assertEqual(paired(4, 3, [(0, 2), (1, 2), (2, 0), (2, 1), (3, 2)])[1], ([2], [2]))

    def test_a_pair_taken_at_first_is_given_up(self):
        for row in itertools.permutations([(0, 0), (0, 1), (1, 0)]):
            self.assertEqual(self.assert_paired(2, 2, list(row)), 2)
        for row in itertools.permutations([(0, 0), (1, 0), (1, 1), (2, 1), (2, 2)]):
            self.assertEqual(self.assert_paired(3, 3, list(row)), 3)

    def test_no_rows_no_columns_no_pairs(self):
        for rows in range(6):
            for columns in range(6):
                self.assertEqual(self.assert_paired(rows, columns, []), 0)
                self.assertEqual(paired(rows, columns, []), ([], ([], [])))

    def test_pairs_that_stand_twice(self):
        self.assertEqual(self.assert_paired(1, 1, [(0, 0), (0, 0)]), 1)
        self.assertEqual(self.assert_paired(1, 1, [(0, 0)] * 30), 1)
        self.assertEqual(self.assert_paired(5, 5, [(4, 4)] * 30), 1)
        self.assertEqual(self.assert_paired(2, 3, [(0, 1), (1, 1), (0, 1), (1, 1)]), 1)
        self.assertEqual(self.assert_paired(2, 3, [(0, 1), (1, 2), (0, 1), (1, 2)]), 2)

    def test_five_rows_five_columns_and_thirty_pairs(self):
        all_places = list(itertools.product(range(5), repeat=2))
        self.assertEqual(self.assert_paired(5, 5, all_places + all_places[:5]), 5)
        self.assertEqual(self.assert_paired(5, 5, all_places[::-1] + all_places[::5]), 5)
        for many in range(6):
            few_rows = [(row, column) for row, column in all_places if row < many]
            self.assertEqual(self.assert_paired(5, 5, (few_rows * 30)[:30]), many)
            few_columns = [(row, column) for row, column in all_places if column >= 5 - many]
            self.assertEqual(self.assert_paired(5, 5, (few_columns * 30)[:30]), many)

    def test_five_in_one_row_or_one_column_each(self):
        """A cross has a cover of one row and one column, however many pairs it has."""
        cross = [(2, column) for column in range(5)] + [(row, 3) for row in range(5)]
        self.assertEqual(self.assert_paired(5, 5, cross * 3), 2)
        self.assertEqual(paired(5, 5, cross)[1], ([2], [3]))

    def test_stairs(self):
        stairs = [(row, column) for row in range(5) for column in range(5) if column <= row]
        for row in [stairs, stairs[::-1], sorted(stairs, key=lambda pair: pair[1])]:
            self.assertEqual(self.assert_paired(5, 5, row), 5)
            self.assertEqual(self.assert_paired(5, 5, row + row), 5)

    def test_all_tables_of_three_by_three(self):
        all_places = list(itertools.product(range(3), repeat=2))
        for many in range(10):
            for row in itertools.combinations(all_places, many):
                self.assertEqual(self.assert_paired(3, 3, list(row)), most_apart(row))

    def test_all_tables_of_two_by_four_and_four_by_two(self):
        all_places = list(itertools.product(range(2), range(4)))
        for many in range(9):
            for row in itertools.combinations(all_places, many):
                turned = [(column, at) for at, column in row]
                self.assertEqual(self.assert_paired(2, 4, list(row)), self.assert_paired(4, 2, turned))

    def test_drawn_pairs(self):
        chance = random.Random(31)
        found = [0] * 6
        for _ in range(600):
            rows = chance.choice([1, 2, 3, 4, 5, 5, 5])
            columns = chance.choice([1, 2, 3, 4, 5, 5, 5])
            many = chance.choice([1, 3, 5, 7, 9, 12, 30])
            pairs = [(chance.randrange(rows), chance.randrange(columns)) for _ in range(many)]
            found[self.assert_paired(rows, columns, pairs)] += 1
        self.assertGreater(min(found[1:]), 10)


class RefusedTest(PairingCase):
    def assert_refused(self, rows, columns, pairs):
        before = copy.deepcopy(pairs)
        with self.assertRaises(NoNetwork, msg=(rows, columns, pairs)):
            paired(rows, columns, pairs)
        self.assertEqual(pairs, before)

    def test_sizes_beyond_or_below(self):
        for none in [6, 7, 100, -1, -2, -5]:
            for many in [0, 1, 5]:
                self.assert_refused(none, many, [])
                self.assert_refused(many, none, [])
            self.assert_refused(none, none, [])
        self.assert_refused(6, 5, [(0, 0)])
        self.assert_refused(5, 6, [(0, 0)])
        self.assert_refused(-1, 5, [(0, 0)])
        self.assert_refused(6, 0, [])
        self.assert_refused(0, 6, [])

    def test_more_rows_are_not_made_up_for_by_fewer_columns(self):
        for many in range(5):
            self.assert_refused(10 - many, many, [])
            self.assert_refused(many, 10 - many, [])

    def test_more_than_thirty_pairs(self):
        for many in [31, 32, 60]:
            self.assert_refused(1, 1, [(0, 0)] * many)
            self.assert_refused(5, 5, [(at % 5, at // 5 % 5) for at in range(many)])
        self.assertEqual(self.assert_paired(1, 1, [(0, 0)] * 30), 1)

    def test_rows_and_columns_that_are_not_there(self):
        for many in [1, 2, 5]:
            for none in [-1, -many, many, many + 1, NINES, -NINES]:
                self.assert_refused(many, 5, [(none, 0)])
                self.assert_refused(5, many, [(0, none)])
                self.assert_refused(many, many, [(none, none)])
                self.assert_refused(many, many, [(0, 0)] * 29 + [(none, 0)])
                self.assert_refused(many, many, [(0, none)] + [(0, 0)] * 29)
        for rows, columns in [(0, 0), (0, 1), (1, 0), (0, 5), (5, 0)]:
            self.assert_refused(rows, columns, [(0, 0)])

    def test_rows_are_no_columns(self):
        self.assert_refused(2, 4, [(2, 0)])
        self.assert_refused(4, 2, [(0, 2)])
        self.assertEqual(self.assert_paired(2, 4, [(1, 3)]), 1)
        self.assertEqual(self.assert_paired(4, 2, [(3, 1)]), 1)


class IsCoverTest(unittest.TestCase):
    def test_written_out(self):
        pairs = [(0, 1), (1, 1), (1, 0)]
        for cover in [([1], [1]), ([0, 1], []), ([], [0, 1]), ([0], [0, 1]), ([1, 0], [1, 0]), ([1, 1], [1, 1])]:
            self.assertIs(is_cover(pairs, cover), True, cover)
        for cover in [([], []), ([0], []), ([1], []), ([], [0]), ([], [1]), ([0], [0]), ([0], [1]), ([1], [0])]:
            self.assertIs(is_cover(pairs, cover), False, cover)

    def test_no_pairs(self):
        for cover in [([], []), ([0], []), ([], [4])]:
            self.assertIs(is_cover([], cover), True)

    def test_rows_are_no_columns(self):
        self.assertIs(is_cover([(0, 1)], ([1], [0])), False)
        self.assertIs(is_cover([(0, 1)], ([1], [1])), True)
        self.assertIs(is_cover([(0, 1)], ([0], [0])), True)

    def test_numbers_that_are_in_no_pair(self):
        self.assertIs(is_cover([(0, 1)], ([7, -1], [9])), False)
        self.assertIs(is_cover([(0, 1)], ([7, -1, 0], [9])), True)

    def test_all_small_covers(self):
        lists = [list(row) for many in range(4) for row in itertools.combinations(range(3), many)]
        chance = random.Random(32)
        for many in [1, 2, 3, 5]:
            pairs = [(chance.randrange(3), chance.randrange(3)) for _ in range(many)]
            for cover in itertools.product(lists, repeat=2):
                self.assertIs(is_cover(pairs, cover), plain_is_cover(pairs, cover))


class AreApartTest(unittest.TestCase):
    def test_written_out(self):
        pairs = [(0, 0), (0, 1), (1, 0), (1, 1), (0, 0), (2, 2)]
        for taken in [[], [0], [4], [0, 3], [3, 0], [1, 2], [0, 3, 5], [5, 2, 1]]:
            self.assertIs(are_apart(pairs, taken), True, taken)
        for taken in [[0, 1], [0, 2], [0, 4], [1, 3], [2, 3], [0, 5, 4], [5, 1, 0], [0, 1, 2, 3]]:
            self.assertIs(are_apart(pairs, taken), False, taken)

    def test_no_pairs(self):
        self.assertIs(are_apart([], []), True)

    def test_a_row_and_a_column_of_one_number_are_apart(self):
        self.assertIs(are_apart([(0, 1), (1, 0)], [0, 1]), True)
        self.assertIs(are_apart([(0, 1), (1, 2), (2, 0)], [0, 1, 2]), True)

    def test_all_small_choices(self):
        pairs = [(0, 0), (0, 1), (1, 1), (1, 0), (2, 1), (2, 2), (1, 1)]
        for many in range(5):
            for taken in itertools.permutations(range(7), many):
                self.assertIs(are_apart(pairs, list(taken)), plain_are_apart(pairs, taken))

    def test_places_that_no_pair_has(self):
        for taken in [[2], [-1], [0, 2], [0, -1], [-1, 0]]:
            self.assertIs(are_apart([(0, 0), (1, 1)], taken), False)


class HandedInTest(unittest.TestCase):
    def test_lists_that_are_told_are_new_ones(self):
        handed = [(0, 0), (0, 1), (1, 1)]
        first = paired(2, 2, handed)
        again = paired(2, 2, handed)
        self.assertEqual(first, again)
        for row in [first[0], first[1][0], first[1][1]]:
            row.append(99)
        self.assertEqual(paired(2, 2, handed), again)
        self.assertEqual(handed, [(0, 0), (0, 1), (1, 1)])

    def test_what_was_handed_in_stays(self):
        pairs = [(0, 0), (0, 1), (1, 1)]
        cover = ([1, 0], [1])
        taken = [2, 0]
        before = copy.deepcopy((pairs, cover, taken))
        self.assertIs(is_cover(pairs, cover), True)
        self.assertIs(are_apart(pairs, taken), True)
        self.assertEqual((pairs, cover, taken), before)


if __name__ == "__main__":
    unittest.main()
