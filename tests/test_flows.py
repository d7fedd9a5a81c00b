"""[2.1] and the rows of surebest/flows.py in the interface; [0.1], [0.2], [0.3], [1.1] of them."""

import copy
import itertools
import random
import unittest

from plain import (
    LONG, NINES, NO_NETWORKS, drawn_arcs, plain_cut_size, plain_in, plain_is_flow, plain_out, plain_reached,
)
from surebest.errors import NoNetwork
from surebest.flows import greatest, greatest_size
from surebest.networks import cut_size, is_flow, size_of

# Two ways from 0 to 3, an arc across, an arc from a place to itself, and an arc twice.
SQUARE = [(0, 1, 3, 2), (0, 2, 2, -1), (1, 2, 1, 0), (1, 3, 2, 5), (2, 3, 4, 1), (2, 2, 7, 3), (0, 1, 3, 2)]


def least_cut(places, arcs, start, goal):
    """The size of the least of all cuts with the start but not the goal."""
    others = [place for place in range(places) if place not in (start, goal)]
    rows = [row for many in range(len(others) + 1) for row in itertools.combinations(others, many)]
    return min(plain_cut_size(arcs, [start] + list(row)) for row in rows)


class FlowsCase(unittest.TestCase):
    def assert_greatest(self, places, arcs, start, goal):
        """Holds the flow against its cut, both by plain sums, and gives the size."""
        before = copy.deepcopy(arcs)
        told = greatest(places, arcs, start, goal)
        self.assertEqual(arcs, before)
        self.assertIs(type(told), tuple)
        self.assertEqual(len(told), 2)
        amounts, side = told
        self.assert_kinds(amounts, side)
        self.assertEqual(len(amounts), len(arcs))
        self.assertTrue(plain_is_flow(places, arcs, start, goal, amounts), (arcs, amounts))
        self.assertEqual(side, sorted(set(side)))
        self.assertTrue(set(side) <= set(range(places)))
        self.assertIn(start, side)
        self.assertNotIn(goal, side)
        size = plain_in(arcs, goal, amounts) - plain_out(arcs, goal, amounts)
        self.assertEqual(plain_cut_size(arcs, side), size)
        whole = greatest_size(places, arcs, start, goal)
        self.assertIs(type(whole), int)
        self.assertEqual(whole, size)
        self.assertEqual(arcs, before)
        return size

    def assert_kinds(self, amounts, side):
        for row in [amounts, side]:
            self.assertIs(type(row), list)
            for number in row:
                self.assertIs(type(number), int)

    def assert_refused(self, places, arcs, start, goal):
        for asked in [greatest, greatest_size]:
            before = copy.deepcopy(arcs)
            with self.assertRaises(NoNetwork, msg=(places, arcs, start, goal)):
                asked(places, arcs, start, goal)
            self.assertEqual(arcs, before)


class GreatestTest(FlowsCase):
    def test_written_out(self):
        self.assertEqual(self.assert_greatest(4, SQUARE, 0, 3), 5)
        self.assertEqual(self.assert_greatest(4, SQUARE, 0, 2), 3)
        self.assertEqual(self.assert_greatest(4, SQUARE, 1, 3), 3)
        self.assertEqual(greatest(3, [(0, 1, 3, 2), (1, 2, 2, 1), (0, 2, 1, 7)], 0, 2), ([2, 2, 1], [0, 1]))
        self.assertEqual(greatest(2, [(0, 1, 4, 9)], 0, 1), ([4], [0]))

    def test_the_answer_keeps_to_what_the_networks_say(self):
        amounts, side = greatest(4, SQUARE, 0, 3)
        self.assertIs(is_flow(4, SQUARE, 0, 3, amounts), True)
        self.assertEqual(size_of(4, SQUARE, 3, amounts), cut_size(SQUARE, side))

    def test_what_was_let_through_is_taken_back(self):
        # The fewest steps lead across; the greatest flow needs the arc across empty again.
        arcs = [(0, 2, 1, 0), (2, 3, 1, 0), (3, 5, 1, 0), (0, 1, 1, 0), (1, 4, 1, 0), (4, 3, 1, 0), (2, 6, 1, 0),
                (6, 7, 1, 0), (7, 5, 1, 0)]
        self.assertEqual(self.assert_greatest(8, arcs, 0, 5), 2)
        self.assertEqual(greatest(8, arcs, 0, 5)[0][1], 0)

    def test_no_arcs(self):
        for places in [2, 3, 12]:
            self.assertEqual(self.assert_greatest(places, [], 0, places - 1), 0)
            self.assertEqual(greatest(places, [], places - 1, 0), ([], [places - 1]))

    def test_a_goal_that_no_walk_comes_to(self):
        self.assertEqual(self.assert_greatest(4, SQUARE, 3, 0), 0)
        self.assertEqual(greatest(4, SQUARE, 3, 0), ([0] * 7, [3]))
        self.assertEqual(self.assert_greatest(4, [(0, 1, 5, 0), (2, 3, 5, 0)], 0, 3), 0)

    def test_rooms_of_nought(self):
        self.assertEqual(greatest(2, [(0, 1, 0, 3)], 0, 1), ([0], [0]))
        self.assertEqual(greatest(3, [(0, 1, 3, 0), (1, 2, 0, 0)], 0, 2), ([0, 0], [0, 1]))
        self.assertEqual(self.assert_greatest(2, [(0, 1, 0, 3), (0, 1, 2, 3), (0, 1, 0, 3)], 0, 1), 2)

    def test_arcs_from_a_place_to_itself(self):
        arcs = [(0, 0, 5, -1), (0, 1, 2, 0), (1, 1, 5, -1), (1, 2, 3, 0), (2, 2, 5, -1)]
        self.assertEqual(self.assert_greatest(3, arcs, 0, 2), 2)
        self.assertEqual(self.assert_greatest(2, [(0, 0, 5, 0), (1, 1, 5, 0)], 0, 1), 0)

    def test_arcs_that_stand_twice(self):
        self.assertEqual(self.assert_greatest(2, [(0, 1, 3, 1), (0, 1, 3, 1)], 0, 1), 6)
        self.assertEqual(self.assert_greatest(3, [(0, 1, 3, 1)] * 3 + [(1, 2, 2, 1)] * 4, 0, 2), 8)
        self.assertEqual(self.assert_greatest(2, [(0, 1, 1, 1)] * 40, 0, 1), 40)

    def test_arcs_back_and_forth(self):
        arcs = [(0, 1, 3, 0), (1, 0, 9, 0), (1, 2, 5, 0), (2, 1, 9, 0), (2, 0, 4, 0), (0, 2, 1, 0)]
        self.assertEqual(self.assert_greatest(3, arcs, 0, 2), 4)
        self.assertEqual(self.assert_greatest(3, arcs, 2, 0), 13)
        self.assertEqual(self.assert_greatest(3, arcs, 1, 0), 13)

    def test_costs_count_for_nothing(self):
        for cost in [-NINES, -7, 0, 7, NINES]:
            arcs = [(begin, to, room, cost) for begin, to, room, _ in SQUARE]
            self.assertEqual(greatest(4, arcs, 0, 3), greatest(4, SQUARE, 0, 3))

    def test_rooms_of_a_hundred_figures(self):
        self.assertEqual(self.assert_greatest(2, [(0, 1, NINES, -NINES)] * 40, 0, 1), 40 * NINES)
        # Raised by ways that go over the narrow arc in turn, this would take about as many turns as the room is.
        for arcs in itertools.permutations([(0, 1, NINES, 0), (0, 2, LONG, 0), (1, 2, 1, 0), (1, 3, LONG, 0),
                                            (2, 3, NINES, 0)]):
            self.assertEqual(self.assert_greatest(4, list(arcs), 0, 3), 2 * LONG + 1)

    def test_somewhat_longer_rooms_are_not_refused(self):
        self.assertEqual(self.assert_greatest(3, [(0, 1, 10 ** 120, 0), (1, 2, 10 ** 110, 0)], 0, 2), 10 ** 110)

    def test_twelve_places_and_forty_arcs(self):
        chain = [(place, place + 1, 20 - place, 0) for place in range(11)]
        self.assertEqual(self.assert_greatest(12, chain + [(11, 0, 5, 0)] * 29, 0, 11), 10)
        self.assertEqual(self.assert_greatest(12, chain * 3 + [(0, 11, 2, 0)] * 7, 0, 11), 44)

    def test_all_small_networks(self):
        kinds = [(begin, to, room, 1) for begin in range(3) for to in range(3) for room in [0, 1, 2] if begin != to]
        for arcs in itertools.combinations_with_replacement(kinds, 3):
            arcs = list(arcs)
            self.assertEqual(self.assert_greatest(3, arcs, 0, 2), least_cut(3, arcs, 0, 2))

    def test_drawn_networks(self):
        chance = random.Random(21)
        for places, many in [(2, 3), (3, 6), (4, 10), (5, 12), (6, 14), (7, 30), (12, 25), (12, 40)]:
            for most in [1, 3, 12, NINES]:
                for _ in range(12):
                    arcs = drawn_arcs(chance, places, many, 0, most)
                    start, goal = chance.sample(range(places), 2)
                    size = self.assert_greatest(places, arcs, start, goal)
                    if places <= 7:
                        self.assertEqual(size, least_cut(places, arcs, start, goal))
                    if goal not in plain_reached(arcs, start):
                        self.assertEqual(size, 0)


class RefusedTest(FlowsCase):
    def test_what_is_no_network(self):
        for places, arcs in NO_NETWORKS:
            self.assert_refused(places, arcs, 0, 1)

    def test_one_place_has_no_other(self):
        for arcs in [[], [(0, 0, 1, 1)]]:
            for start, goal in [(0, 0), (0, 1), (1, 0), (-1, 0), (0, -1)]:
                self.assert_refused(1, arcs, start, goal)

    def test_a_room_below_nought(self):
        for room in [-1, -2, -NINES]:
            self.assert_refused(2, [(0, 1, room, 0)], 0, 1)
            self.assert_refused(2, [(1, 0, room, 0)], 0, 1)
            self.assert_refused(4, SQUARE + [(3, 3, room, 0)], 0, 3)
            self.assert_refused(5, [(4, 4, room, 0)] + SQUARE, 0, 3)

    def test_a_start_or_goal_that_is_no_place(self):
        for none in [-1, -2, 4, 5, NINES, -NINES]:
            self.assert_refused(4, SQUARE, none, 3)
            self.assert_refused(4, SQUARE, 0, none)
            self.assert_refused(4, SQUARE, none, none)
            self.assert_refused(4, [], none, 3)

    def test_a_start_that_is_the_goal(self):
        for place in range(4):
            self.assert_refused(4, SQUARE, place, place)
            self.assert_refused(4, [], place, place)


class HandedInTest(FlowsCase):
    def test_lists_that_are_told_are_new_ones(self):
        arcs = list(SQUARE)
        first = greatest(4, arcs, 0, 3)
        again = greatest(4, arcs, 0, 3)
        self.assertEqual(first, again)
        first[0][0] = 99
        first[1].append(99)
        self.assertEqual(greatest(4, arcs, 0, 3), again)
        self.assertEqual(arcs, SQUARE)

    def test_nothing_is_kept(self):
        arcs = [(0, 1, 2, 0)]
        told = greatest(2, arcs, 0, 1)
        arcs[0] = (0, 1, 7, 0)
        self.assertEqual(told, ([2], [0]))
        self.assertEqual(greatest_size(2, arcs, 0, 1), 7)


if __name__ == "__main__":
    unittest.main()
