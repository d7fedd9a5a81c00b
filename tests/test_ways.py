"""[2.2], [2.3] and the rows of surebest/ways.py in the interface; [0.1], [0.2], [0.3], [1.1] of them."""

import copy
import itertools
import random
import unittest

from plain import LONG, NINES, NO_NETWORKS, drawn_arcs, plain_reached
from surebest.errors import NoNetwork, NoWay
from surebest.ways import is_walk, length_of, nearest, way_to

# 0 to 1 straight and, shorter, round by 2; 3 behind a cost below 0; 4 has arcs out alone; an arc to itself, one twice.
FIVE = [(0, 1, 1, 7), (0, 2, 1, 2), (2, 1, 1, 3), (1, 3, 1, -4), (2, 2, 1, 0), (4, 0, 1, -9), (0, 2, 1, 2)]


def plain_length(arcs, way):
    total = 0
    for at in way:
        total += arcs[at][3]
    return total


def plain_is_walk(arcs, way, start, goal):
    stops = [start] + [arcs[at][1] for at in way]
    return stops[-1] == goal and all(arcs[at][0] == stop for at, stop in zip(way, stops))


def plain_lengths(places, arcs, start, most):
    """The least lengths of walks with up to that many arcs."""
    lengths = {start: 0}
    for _ in range(most):
        longer = dict(lengths)
        for begin, to, _, cost in arcs:
            if begin in lengths and (to not in longer or lengths[begin] + cost < longer[to]):
                longer[to] = lengths[begin] + cost
        lengths = longer
    return [lengths.get(place) for place in range(places)]


class WaysCase(unittest.TestCase):
    def assert_nearest(self, places, arcs, start):
        """Holds the answer against its reason, and gives it."""
        before = copy.deepcopy(arcs)
        told = nearest(places, arcs, start)
        self.assertEqual(arcs, before)
        self.assertIs(type(told), tuple)
        self.assertEqual([type(part) for part in told], [str, list, list])
        self.assertIsNot(told[1], told[2])
        if told[0] == "ring":
            self.assert_ring(arcs, start, told[1], told[2])
        else:
            self.assertEqual(told[0], "ways")
            self.assert_lengths(places, arcs, start, told[1], told[2])
        shortest = plain_lengths(places, arcs, start, places - 1)
        has_ring = plain_lengths(places, arcs, start, places) != shortest
        self.assertEqual(told[0], "ring" if has_ring else "ways")
        if not has_ring:
            self.assertEqual(told[1], shortest)
        return told

    def assert_ring(self, arcs, start, ring, rest):
        self.assertEqual(rest, [])
        self.assertNotEqual(ring, [])
        for at in ring:
            self.assertIs(type(at), int)
            self.assertIn(at, range(len(arcs)))
        first = arcs[ring[0]][0]
        self.assertTrue(plain_is_walk(arcs, ring, first, first), (arcs, ring))
        self.assertLess(plain_length(arcs, ring), 0)
        self.assertIn(first, plain_reached(arcs, start))

    def assert_lengths(self, places, arcs, start, lengths, lasts):
        self.assertEqual([len(lengths), len(lasts)], [places, places])
        self.assertEqual((lengths[start], lasts[start]), (0, None))
        for begin, to, _, cost in arcs:
            if lengths[begin] is not None:
                self.assertIsNotNone(lengths[to])
                self.assertLessEqual(lengths[to], lengths[begin] + cost)
        for place in range(places):
            if lengths[place] is None:
                self.assertIsNone(lasts[place])
            else:
                self.assertIs(type(lengths[place]), int)
                self.assert_last_arcs(arcs, start, lengths, lasts, place)

    def assert_last_arcs(self, arcs, start, lengths, lasts, place):
        for _ in lengths:
            if place == start:
                return
            self.assertIs(type(lasts[place]), int)
            self.assertIn(lasts[place], range(len(arcs)))
            begin, to, _, cost = arcs[lasts[place]]
            self.assertEqual(to, place)
            self.assertEqual(lengths[begin] + cost, lengths[place])
            place = begin
        self.fail("the last arcs don't lead back to the start")

    def assert_ways(self, places, arcs, start):
        """Holds way_to against nearest, for all goals and some that are no place."""
        told = self.assert_nearest(places, arcs, start)
        before = copy.deepcopy(arcs)
        for goal in range(-2, places + 2):
            if told[0] == "ways" and 0 <= goal < places and told[1][goal] is not None:
                way = way_to(places, arcs, start, goal)
                self.assertIs(type(way), list)
                self.assertTrue(plain_is_walk(arcs, way, start, goal), (arcs, way))
                self.assertEqual(plain_length(arcs, way), told[1][goal])
                self.assertIs(is_walk(arcs, way, start, goal), True)
                self.assertEqual(length_of(arcs, way), told[1][goal])
                if goal == start:
                    self.assertEqual(way, [])
            else:
                with self.assertRaises(NoWay, msg=(places, arcs, start, goal)):
                    way_to(places, arcs, start, goal)
            self.assertEqual(arcs, before)
        return told


class NearestTest(WaysCase):
    def test_written_out(self):
        told = self.assert_ways(5, FIVE, 0)
        self.assertEqual(told[:2], ("ways", [0, 5, 2, 1, None]))
        self.assertEqual(told[2][0:2] + told[2][3:], [None, 2, 3, None])
        self.assertIn(told[2][2], [1, 6])
        self.assertEqual(self.assert_ways(5, FIVE, 4)[1], [-9, -4, -7, -8, 0])
        self.assertEqual(nearest(5, FIVE, 3), ("ways", [None, None, None, 0, None], [None] * 5))

    def test_ring_written_out(self):
        arcs = [(0, 1, 1, 5), (1, 2, 1, 1), (2, 3, 1, -4), (3, 1, 1, 2), (2, 4, 1, 0)]
        told = self.assert_ways(5, arcs, 0)
        self.assertEqual((told[0], sorted(told[1]), told[2]), ("ring", [1, 2, 3], []))
        self.assertEqual(self.assert_ways(5, arcs, 4), ("ways", [None] * 4 + [0], [None] * 5))

    def test_one_place(self):
        for arcs in [[], [(0, 0, 1, 0)], [(0, 0, 1, 3)], [(0, 0, 1, 3), (0, 0, 1, 0)]]:
            self.assertEqual(self.assert_ways(1, arcs, 0), ("ways", [0], [None]))
        self.assertEqual(self.assert_ways(1, [(0, 0, 1, -1)], 0), ("ring", [0], []))
        self.assertEqual(self.assert_ways(1, [(0, 0, 1, 4), (0, 0, 1, -1)], 0), ("ring", [1], []))

    def test_no_arcs(self):
        for places in [2, 5, 12]:
            for start in range(places):
                told = self.assert_ways(places, [], start)
                self.assertEqual(told[1], [0 if place == start else None for place in range(places)])

    def test_arcs_from_a_place_to_itself(self):
        arcs = [(0, 1, 1, 4), (1, 1, 1, 0), (1, 1, 1, 2), (1, 2, 1, 1)]
        self.assertEqual(self.assert_ways(3, arcs, 0), ("ways", [0, 4, 5], [None, 0, 3]))
        self.assertEqual(self.assert_ways(3, arcs + [(2, 2, 1, -1)], 0), ("ring", [4], []))

    def test_arcs_that_stand_twice(self):
        self.assertEqual(self.assert_ways(2, [(0, 1, 1, 3)] * 40, 0)[1], [0, 3])
        arcs = [(0, 1, 1, 3), (0, 1, 1, 2), (0, 1, 1, 3)]
        self.assertEqual(self.assert_ways(2, arcs, 0), ("ways", [0, 2], [None, 1]))

    def test_rings_of_length_nought_and_above(self):
        # From last arc to last arc none of these may lead round.
        for costs in [(0, 0, 0), (-3, 1, 2), (2, -3, 1), (1, 2, -3), (5, -2, -2)]:
            ring = [(0, 1, 1, costs[0]), (1, 2, 1, costs[1]), (2, 0, 1, costs[2])]
            for arcs in itertools.permutations(ring + [(3, 1, 1, 0)]):
                for start in range(4):
                    self.assertEqual(self.assert_ways(4, list(arcs), start)[0], "ways")

    def test_rings_of_a_length_just_below_nought(self):
        for costs in [(0, 0, -1), (-3, 1, 1), (NINES, -NINES, -1), (LONG, -1, -LONG)]:
            ring = [(0, 1, 1, costs[0]), (1, 2, 1, costs[1]), (2, 0, 1, costs[2])]
            for arcs in itertools.permutations(ring + [(3, 1, 1, NINES)]):
                for start in range(4):
                    self.assertEqual(self.assert_ways(4, list(arcs), start)[0], "ring")

    def test_a_ring_that_no_walk_comes_to(self):
        arcs = [(0, 1, 1, 2), (2, 3, 1, -5), (3, 2, 1, 1), (3, 0, 1, 0), (4, 4, 1, -1)]
        self.assertEqual(self.assert_ways(5, arcs, 0), ("ways", [0, 2, None, None, None], [None, 0, None, None, None]))
        self.assertEqual(self.assert_ways(5, arcs, 1)[0], "ways")
        self.assertEqual(self.assert_ways(5, arcs, 2)[0], "ring")
        self.assertEqual(self.assert_ways(5, arcs, 4), ("ring", [4], []))

    def test_rooms_count_for_nothing(self):
        for room in [0, -1, 1, -NINES, NINES]:
            arcs = [(begin, to, room, cost) for begin, to, _, cost in FIVE]
            self.assertEqual(self.assert_ways(5, arcs, 4), nearest(5, FIVE, 4))
            self.assertEqual(self.assert_ways(2, [(0, 1, room, -1), (1, 0, room, 0)], 0)[0], "ring")

    def test_costs_of_a_hundred_figures(self):
        arcs = [(place, place + 1, 0, NINES) for place in range(11)]
        self.assertEqual(self.assert_ways(12, arcs, 0)[1], [place * NINES for place in range(12)])
        arcs = [(place, place + 1, 0, -NINES) for place in range(11)] + [(11, 0, 0, NINES)] * 11
        self.assertEqual(self.assert_ways(12, arcs, 0)[0], "ring")
        arcs = [(0, 1, 0, -NINES), (1, 0, 0, NINES)]
        self.assertEqual(self.assert_ways(2, arcs, 0), ("ways", [0, -NINES], [None, 0]))

    def test_somewhat_longer_costs_are_not_refused(self):
        self.assertEqual(self.assert_ways(2, [(0, 1, 0, 10 ** 120)], 0)[1], [0, 10 ** 120])

    def test_long_rows_in_any_order(self):
        """Twelve places behind one another, and rings of all of them: no arc too few may be gone along."""
        row = [(place, place + 1, 0, -1) for place in range(11)]
        for arcs in [row, row[::-1], row[1::2] + row[::2]]:
            self.assertEqual(self.assert_ways(12, arcs, 0)[1], [-place for place in range(12)])
            short = [(0, place, 0, 0) for place in range(1, 12)]
            self.assertEqual(self.assert_ways(12, arcs + short, 0)[1], [-place for place in range(12)])
            self.assertEqual(self.assert_ways(12, short + arcs, 0)[1], [-place for place in range(12)])
            self.assertEqual(self.assert_ways(12, arcs + [(11, 0, 0, 11)], 5)[0], "ways")
            told = self.assert_ways(12, arcs + [(11, 0, 0, 10)], 5)
            self.assertEqual((told[0], sorted(told[1])), ("ring", list(range(12))))

    def test_twelve_places_and_forty_arcs(self):
        arcs = [(at % 12, (at + 1) % 12, 0, 3) for at in range(12)]
        arcs = arcs + [(at % 12, (at * 5 + at // 12) % 12, 0, at - 2) for at in range(2, 30)]
        self.assertEqual(len(arcs), 40)
        for start in range(12):
            self.assertEqual(self.assert_ways(12, arcs, start)[0], "ways")
            self.assertEqual(self.assert_ways(12, arcs[:39] + [(0, 0, 0, -1)], start)[0], "ring")

    def test_all_small_networks(self):
        kinds = [(begin, to, 0, cost) for begin in range(2) for to in range(2) for cost in [-1, 0, 1]]
        for many in range(4):
            for arcs in itertools.product(kinds, repeat=many):
                self.assert_ways(2, list(arcs), 0)
        kinds = [(begin, to, 0, cost) for begin in range(3) for to in range(3) for cost in [-1, 1] if begin != to]
        for arcs in itertools.product(kinds, repeat=3):
            self.assert_nearest(3, list(arcs), 0)

    def test_drawn_networks(self):
        chance = random.Random(22)
        found = {"ways": 0, "ring": 0}
        for places, many in [(2, 3), (3, 4), (4, 6), (6, 8), (9, 14), (12, 15), (12, 40)]:
            for most in [1, 5, NINES]:
                for raised in [0, most // 2, most * 2]:
                    for _ in range(15):
                        arcs = drawn_arcs(chance, places, many, -1, most)
                        arcs = [(begin, to, room, cost + raised) for begin, to, room, cost in arcs]
                        found[self.assert_ways(places, arcs, chance.randrange(places))[0]] += 1
        self.assertGreater(min(found.values()), 100)

    def test_drawn_heights(self):
        """Costs made from heights of the places: many below 0, rings of length 0, and no ring below."""
        chance = random.Random(23)
        for places, many in [(3, 6), (6, 20), (12, 40)]:
            for _ in range(30):
                heights = [chance.randint(-9, 9) for _ in range(places)]
                ends = [(chance.randrange(places), chance.randrange(places)) for _ in range(many)]
                arcs = [(begin, to, 0, heights[to] - heights[begin]) for begin, to in ends]
                start = chance.randrange(places)
                told = self.assert_ways(places, arcs, start)
                self.assertEqual(told[0], "ways")
                for place in plain_reached(arcs, start):
                    self.assertEqual(told[1][place], heights[place] - heights[start])


class WayToTest(WaysCase):
    def test_written_out(self):
        self.assertIn(way_to(5, FIVE, 0, 3), [[1, 2, 3], [6, 2, 3]])
        self.assertEqual(way_to(2, [(1, 0, 1, 8)], 1, 0), [0])

    def test_a_start_that_is_the_goal(self):
        for place in range(5):
            self.assertEqual(way_to(5, FIVE, place, place), [])
        self.assertEqual(way_to(1, [], 0, 0), [])
        self.assertEqual(way_to(1, [(0, 0, 1, 0)], 0, 0), [])

    def test_a_ring_goes_ahead_even_of_a_start_that_is_the_goal(self):
        arcs = [(0, 1, 1, 2), (0, 2, 1, 0), (2, 2, 1, -1)]
        for goal in [0, 1, 2, 3, -1]:
            with self.assertRaises(NoWay):
                way_to(3, arcs, 0, goal)
        self.assertEqual(way_to(3, arcs, 1, 1), [])

    def test_a_goal_that_no_walk_comes_to(self):
        for goal in [0, 1, 2, 4]:
            with self.assertRaises(NoWay):
                way_to(5, FIVE, 3, goal)

    def test_a_goal_that_is_no_place(self):
        for goal in [-1, -5, 5, 6, NINES, -NINES]:
            for start in range(5):
                with self.assertRaises(NoWay):
                    way_to(5, FIVE, start, goal)
        for goal in [-1, 1]:
            with self.assertRaises(NoWay):
                way_to(1, [], 0, goal)


class RefusedTest(WaysCase):
    def assert_refused(self, places, arcs, start):
        before = copy.deepcopy(arcs)
        with self.assertRaises(NoNetwork, msg=(places, arcs, start)):
            nearest(places, arcs, start)
        for goal in [0, 1, start, -1, places]:
            with self.assertRaises(NoNetwork, msg=(places, arcs, start, goal)):
                way_to(places, arcs, start, goal)
        self.assertEqual(arcs, before)

    def test_what_is_no_network(self):
        for places, arcs in NO_NETWORKS:
            self.assert_refused(places, arcs, 0)

    def test_a_start_that_is_no_place(self):
        for start in [-1, -5, 5, 6, NINES, -NINES]:
            self.assert_refused(5, FIVE, start)
            self.assert_refused(5, FIVE + [(0, 0, 1, -1)], start)
            self.assert_refused(1, [], start)


class WalksTest(unittest.TestCase):
    def test_length_of(self):
        self.assertEqual(length_of(FIVE, []), 0)
        self.assertEqual(length_of([], []), 0)
        self.assertEqual(length_of(FIVE, [5, 1, 4, 4, 2, 3]), -9 + 2 + 3 - 4)
        self.assertEqual(length_of(FIVE, [5, 5]), -18)
        self.assertEqual(length_of([(0, 0, -1, NINES), (0, 0, 1, -LONG)], [0, 0, 1]), 2 * NINES - LONG)
        for way in [[], [0], [3, 3]]:
            self.assertIs(type(length_of(FIVE, way)), int)

    def test_right_walks(self):
        for way, start, goal in [
            ([], 0, 0), ([], 3, 3), ([0], 0, 1), ([1, 2, 3], 0, 3), ([6, 4, 4, 2], 0, 1), ([4], 2, 2), ([5, 6], 4, 2),
        ]:
            self.assertIs(is_walk(FIVE, way, start, goal), True, (way, start, goal))
        self.assertIs(is_walk([], [], 0, 0), True)

    def test_wrong_walks(self):
        for way, start, goal in [
            ([], 0, 1),             # nothing leads from 0 to 1
            ([0], 1, 1),            # begins elsewhere
            ([0], 0, 0),            # ends elsewhere
            ([1, 3], 0, 3),         # torn in the middle
            ([3, 2, 1], 0, 3),      # back to front
            ([0, 3, 0], 0, 1),
            ([1, 2, 3], 0, 1),
            ([1, 2, 3], 2, 3),
        ]:
            self.assertIs(is_walk(FIVE, way, start, goal), False, (way, start, goal))
        self.assertIs(is_walk([], [], 0, 1), False)

    def test_numbers_that_are_no_arcs(self):
        for way in [[7], [-1], [0, 7], [0, -4], [NINES]]:
            self.assertIs(is_walk(FIVE, way, 0, 1), False, way)
        self.assertIs(is_walk([], [0], 0, 0), False)
        self.assertIs(is_walk([(0, 0, 1, 1)], [-1], 0, 0), False)

    def test_all_short_walks(self):
        for many in range(4):
            for way in itertools.product(range(7), repeat=many):
                for start in range(5):
                    for goal in range(5):
                        told = is_walk(FIVE, list(way), start, goal)
                        self.assertIs(told, plain_is_walk(FIVE, way, start, goal))

    def test_somewhat_longer_lists_are_not_refused(self):
        arcs = [(place, place + 1, 1, 2) for place in range(50)]
        self.assertIs(is_walk(arcs, list(range(50)), 0, 50), True)
        self.assertEqual(length_of(arcs, list(range(50))), 100)


class HandedInTest(unittest.TestCase):
    def test_lists_that_are_told_are_new_ones(self):
        for arcs in [FIVE, [(0, 1, 1, -1), (1, 0, 1, 0)]]:
            handed = list(arcs)
            first = nearest(5, handed, 0)
            again = nearest(5, handed, 0)
            self.assertEqual(first, again)
            first[1][0] = 99
            first[2].append(99)
            self.assertEqual(nearest(5, handed, 0), again)
            self.assertEqual(handed, arcs)
        way = way_to(5, FIVE, 0, 3)
        again = list(way)
        way.append(99)
        self.assertEqual(way_to(5, FIVE, 0, 3), again)

    def test_what_was_handed_in_stays(self):
        arcs = list(FIVE)
        way = [1, 2, 3]
        self.assertIs(is_walk(arcs, way, 0, 3), True)
        self.assertEqual(length_of(arcs, way), 1)
        self.assertEqual((arcs, way), (FIVE, [1, 2, 3]))


if __name__ == "__main__":
    unittest.main()
