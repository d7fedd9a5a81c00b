"""[1.1], [1.2] and the row of surebest/networks.py in the interface; [0.1] of it."""

import copy
import itertools
import random
import unittest

from plain import LONG, NO_NETWORKS, drawn_arcs, plain_cut_size, plain_in, plain_is_flow, plain_out
from surebest.errors import NoNetwork
from surebest.networks import check_network, cost_of, cut_size, is_flow, size_of

# Two ways from 0 to 3, an arc across, an arc from a place to itself, and an arc twice.
SQUARE = [(0, 1, 3, 2), (0, 2, 2, -1), (1, 2, 1, 0), (1, 3, 2, 5), (2, 3, 4, 1), (2, 2, 7, 3), (0, 1, 3, 9)]


def drawn_flow(chance, places, arcs):
    """Any amounts, evened out by more arcs from each place to the one behind it, and rooms that just hold them."""
    amounts = [chance.randint(0, 9) for _ in arcs]
    roomy = [(begin, to, amount, cost) for (begin, to, _, cost), amount in zip(arcs, amounts)]
    for place in range(places):
        spare = plain_in(roomy, place, amounts) - plain_out(roomy, place, amounts)
        if spare > 0:
            roomy.append((place, (place + 1) % places, spare, 1))
            amounts.append(spare)
        elif spare < 0:
            roomy.append(((place + 1) % places, place, -spare, 1))
            amounts.append(-spare)
    return roomy, amounts


class CheckNetworkTest(unittest.TestCase):
    """What the functions that say NoNetwork refuse of a network, whatever they ask beyond it."""

    def test_what_is_no_network(self):
        for places, arcs in NO_NETWORKS:
            with self.assertRaises(NoNetwork, msg=(places, arcs)):
                check_network(places, arcs)

    def test_what_is_a_network(self):
        for places, arcs in [
            (1, []),
            (1, [(0, 0, 1, 1)]),
            (12, []),
            (12, [(0, 11, 1, 1), (11, 0, 1, 1)]),
            (2, [(0, 1, 1, 1)] * 40),
            (2, [(0, 1, -LONG, -LONG), (1, 1, LONG, LONG), (1, 0, 0, 0)]),
        ]:
            check_network(places, arcs)


class IsFlowTest(unittest.TestCase):
    def test_right_flows(self):
        for amounts in [
            [0, 0, 0, 0, 0, 0, 0],
            [2, 2, 0, 2, 2, 0, 0],
            [3, 2, 1, 2, 3, 0, 0],
            [1, 2, 1, 2, 3, 0, 2],
            [3, 2, 1, 2, 3, 7, 0],
        ]:
            self.assertIs(is_flow(4, SQUARE, 0, 3, amounts), True, amounts)

    def test_amount_below_nought(self):
        self.assertIs(is_flow(2, [(0, 1, 5, 0)], 0, 1, [-1]), False)
        self.assertIs(is_flow(4, SQUARE, 0, 3, [0, 0, 0, 0, 0, -1, 0]), False)
        self.assertIs(is_flow(4, SQUARE, 0, 3, [-1, 0, 0, 0, 0, 0, 1]), False)

    def test_amount_above_the_room(self):
        self.assertIs(is_flow(2, [(0, 1, 5, 0)], 0, 1, [5]), True)
        self.assertIs(is_flow(2, [(0, 1, 5, 0)], 0, 1, [6]), False)
        self.assertIs(is_flow(4, SQUARE, 0, 3, [0, 0, 0, 0, 0, 8, 0]), False)

    def test_rooms_of_nought_and_below(self):
        self.assertIs(is_flow(2, [(0, 1, 0, 0)], 0, 1, [0]), True)
        self.assertIs(is_flow(2, [(0, 1, 0, 0)], 0, 1, [1]), False)
        for amount in [-2, -1, 0, 1]:
            self.assertIs(is_flow(2, [(0, 1, -1, 0)], 0, 1, [amount]), False)

    def test_too_few_or_too_many_amounts(self):
        self.assertIs(is_flow(4, SQUARE, 0, 3, []), False)
        self.assertIs(is_flow(4, SQUARE, 0, 3, [0] * 6), False)
        self.assertIs(is_flow(4, SQUARE, 0, 3, [0] * 8), False)
        self.assertIs(is_flow(1, [], 0, 0, [0]), False)

    def test_a_place_that_is_not_even(self):
        chain = [(0, 1, 5, 0), (1, 2, 5, 0)]
        self.assertIs(is_flow(3, chain, 0, 2, [3, 3]), True)
        self.assertIs(is_flow(3, chain, 0, 2, [3, 2]), False)
        self.assertIs(is_flow(3, chain, 0, 2, [2, 3]), False)

    def test_the_last_and_the_first_place_count_too(self):
        self.assertIs(is_flow(3, [(0, 2, 1, 0)], 0, 1, [1]), False)
        self.assertIs(is_flow(3, [(1, 0, 1, 0)], 1, 2, [1]), False)

    def test_start_and_goal_need_not_be_even(self):
        self.assertIs(is_flow(2, [(0, 1, 4, 0)], 0, 1, [4]), True)
        self.assertIs(is_flow(2, [(0, 1, 4, 0)], 1, 0, [4]), True)

    def test_start_and_goal_the_same(self):
        ring = [(0, 1, 2, 0), (1, 0, 2, 0)]
        self.assertIs(is_flow(2, ring, 0, 0, [2, 2]), True)
        self.assertIs(is_flow(2, ring, 0, 0, [2, 1]), False)

    def test_arcs_from_a_place_to_itself(self):
        arcs = [(0, 1, 2, 0), (1, 1, 9, 0), (1, 2, 2, 0), (0, 0, 1, 0), (2, 2, 1, 0)]
        self.assertIs(is_flow(3, arcs, 0, 2, [2, 9, 2, 1, 1]), True)
        self.assertIs(is_flow(3, arcs, 0, 2, [1, 1, 2, 0, 0]), False)
        self.assertIs(is_flow(3, arcs, 0, 2, [2, 10, 2, 0, 0]), False)

    def test_several_arcs_between_two_places(self):
        arcs = [(0, 1, 1, 0), (0, 1, 1, 5), (0, 1, 1, 0), (1, 2, 3, 0), (2, 1, 1, 0)]
        self.assertIs(is_flow(3, arcs, 0, 2, [1, 1, 1, 3, 0]), True)
        self.assertIs(is_flow(3, arcs, 0, 2, [1, 0, 1, 3, 1]), True)
        self.assertIs(is_flow(3, arcs, 0, 2, [2, 0, 1, 3, 0]), False)
        self.assertIs(is_flow(3, arcs, 0, 2, [1, 0, 1, 3, 0]), False)

    def test_no_arcs(self):
        self.assertIs(is_flow(1, [], 0, 0, []), True)
        self.assertIs(is_flow(12, [], 0, 11, []), True)

    def test_long_rooms(self):
        arcs = [(0, 1, LONG, 0), (1, 2, LONG, 0)]
        self.assertIs(is_flow(3, arcs, 0, 2, [LONG, LONG]), True)
        self.assertIs(is_flow(3, arcs, 0, 2, [LONG, LONG - 1]), False)
        self.assertIs(is_flow(3, arcs, 0, 2, [LONG + 1, LONG + 1]), False)

    def test_lists_of_what_are_no_whole_numbers(self):
        for amount in [True, False, None, "1", [1], (1,)]:
            self.assertIs(is_flow(2, [(0, 1, 5, 0)], 0, 1, [amount]), False, amount)

    def test_all_amounts_of_a_small_network(self):
        arcs = [(0, 1, 1, 0), (1, 2, 2, 0), (0, 1, 1, 0), (1, 1, 1, 0), (2, 0, 1, 0)]
        for amounts in itertools.product(range(-1, 4), repeat=5):
            amounts = list(amounts)
            for start, goal in [(0, 2), (2, 0), (0, 1), (1, 1)]:
                told = is_flow(3, arcs, start, goal, amounts)
                self.assertIs(told, plain_is_flow(3, arcs, start, goal, amounts), (start, goal, amounts))

    def test_drawn_flows_up_to_the_bounds_and_somewhat_beyond(self):
        chance = random.Random(12)
        for places in [1, 2, 5, 12, 13, 15]:
            for many in [0, 3, 28, 40]:
                arcs, amounts = drawn_flow(chance, places, drawn_arcs(chance, places, many, -1, 9))
                start, goal = chance.randrange(places), chance.randrange(places)
                self.assertIs(is_flow(places, arcs, start, goal, amounts), True)
                for at in range(len(amounts)):
                    for step in [-1, 1]:
                        other = amounts[:at] + [amounts[at] + step] + amounts[at + 1:]
                        told = is_flow(places, arcs, start, goal, other)
                        self.assertIs(told, plain_is_flow(places, arcs, start, goal, other))


class SizesTest(unittest.TestCase):
    def test_size_of_written_out(self):
        self.assertEqual(size_of(4, SQUARE, 3, [3, 2, 1, 2, 3, 0, 0]), 5)
        self.assertEqual(size_of(4, SQUARE, 3, [0] * 7), 0)
        self.assertEqual(size_of(2, [(0, 1, 4, 0), (1, 0, 4, 0)], 1, [4, 1]), 3)
        self.assertEqual(size_of(2, [(0, 1, 4, 0)], 0, [4]), -4)
        self.assertEqual(size_of(1, [], 0, []), 0)

    def test_size_of_with_an_arc_from_the_goal_to_itself(self):
        arcs = [(0, 1, 4, 0), (1, 1, 9, 0)]
        self.assertEqual(size_of(2, arcs, 1, [4, 9]), 4)
        self.assertEqual(size_of(2, arcs, 1, [0, 9]), 0)

    def test_size_of_long_amounts(self):
        arcs = [(0, 1, LONG, 0), (0, 1, LONG, 0), (1, 0, LONG, 0)]
        self.assertEqual(size_of(2, arcs, 1, [LONG, LONG - 1, 1]), 2 * LONG - 2)

    def test_cut_size_written_out(self):
        self.assertEqual(cut_size(SQUARE, [0]), 8)
        self.assertEqual(cut_size(SQUARE, [0, 1]), 5)
        self.assertEqual(cut_size(SQUARE, [0, 1, 2]), 6)
        self.assertEqual(cut_size(SQUARE, [2]), 4)
        self.assertEqual(cut_size(SQUARE, [3]), 0)

    def test_empty_cut_and_cut_of_all_places(self):
        self.assertEqual(cut_size(SQUARE, []), 0)
        self.assertEqual(cut_size(SQUARE, [0, 1, 2, 3]), 0)
        self.assertEqual(cut_size([], []), 0)
        self.assertEqual(cut_size([], [0]), 0)

    def test_a_place_told_twice_in_a_cut(self):
        self.assertEqual(cut_size(SQUARE, [0, 0]), 8)
        self.assertEqual(cut_size(SQUARE, [1, 0, 1, 1]), 5)

    def test_arcs_into_the_cut_and_to_itself_count_for_nothing(self):
        self.assertEqual(cut_size([(1, 0, 5, 0), (0, 0, 7, 0), (1, 1, 9, 0), (0, 1, 2, 0)], [0]), 2)

    def test_cut_size_of_long_rooms_and_of_rooms_below_nought(self):
        self.assertEqual(cut_size([(0, 1, LONG, 0), (0, 1, LONG, 0), (0, 2, -3, 0)], [0]), 2 * LONG - 3)

    def test_cost_of_written_out(self):
        self.assertEqual(cost_of(SQUARE, [3, 2, 1, 2, 3, 7, 1]), 6 - 2 + 0 + 10 + 3 + 21 + 9)
        self.assertEqual(cost_of(SQUARE, [0] * 7), 0)
        self.assertEqual(cost_of([], []), 0)
        self.assertEqual(cost_of([(1, 1, 4, -6)], [3]), -18)

    def test_cost_of_long_costs(self):
        arcs = [(0, 1, LONG, LONG), (1, 1, 1, -LONG)]
        self.assertEqual(cost_of(arcs, [LONG, 1]), LONG * LONG - LONG)

    def test_against_plain_sums(self):
        chance = random.Random(11)
        for most in [4, 10 ** 100 - 1]:
            for places, many in [(1, 3), (2, 6), (5, 12), (12, 40), (14, 44)]:
                for _ in range(10):
                    arcs = drawn_arcs(chance, places, many, -1, most)
                    amounts = [chance.randint(0, most) for _ in arcs]
                    side = [chance.randrange(places) for _ in range(chance.randrange(places + 2))]
                    for goal in range(places):
                        plain = plain_in(arcs, goal, amounts) - plain_out(arcs, goal, amounts)
                        self.assertEqual(size_of(places, arcs, goal, amounts), plain)
                    self.assertEqual(cut_size(arcs, side), plain_cut_size(arcs, side))
                    self.assertEqual(cost_of(arcs, amounts), sum(n * arc[3] for n, arc in zip(amounts, arcs)))

    def test_whole_numbers_are_told(self):
        for told in [
            size_of(4, SQUARE, 3, [0] * 7),
            size_of(1, [], 0, []),
            cut_size(SQUARE, [0]),
            cut_size([], []),
            cost_of(SQUARE, [1] * 7),
            cost_of([], []),
        ]:
            self.assertIs(type(told), int)


class HandedInTest(unittest.TestCase):
    def test_what_was_handed_in_stays_and_nothing_is_kept(self):
        arcs = list(SQUARE)
        side = [1, 0, 1]
        for amounts in [[3, 2, 1, 2, 3, 0, 0], [9, -2, 1, 2, 3, 0, 0], [1], []]:
            before = copy.deepcopy((arcs, amounts))
            first = is_flow(4, arcs, 0, 3, amounts)
            self.assertIs(is_flow(4, arcs, 0, 3, amounts), first)
            self.assertEqual((arcs, amounts), before)
        amounts = [3, 2, 1, 2, 3, 0, 0]
        before = copy.deepcopy((arcs, side, amounts))
        first = (size_of(4, arcs, 3, amounts), cut_size(arcs, side), cost_of(arcs, amounts))
        again = (size_of(4, arcs, 3, amounts), cut_size(arcs, side), cost_of(arcs, amounts))
        self.assertEqual(first, again)
        self.assertEqual((arcs, side, amounts), before)


if __name__ == "__main__":
    unittest.main()
