"""[3.3] and the rows of surebest/trees.py in the interface; [0.1], [0.2], [0.3], [1.1] of them."""

import copy
import itertools
import random
import unittest

from plain import LONG, NINES, NO_NETWORKS, drawn_arcs
from surebest.errors import NoNetwork
from surebest.trees import joined, reasons

# A ring of four with an arc across, an arc from a place to itself, and an arc twice, once the other way round.
SQUARE = [(0, 1, 1, 5), (1, 2, 1, 2), (3, 2, 1, 4), (3, 0, 1, 1), (0, 2, 1, 3), (2, 2, 1, -9), (2, 1, 1, 2)]


def line(*ends):
    """Arcs of the cost 1 between the places told."""
    return [(begin, to, 1, 1) for begin, to in ends]


def plain_joined_to(arcs, row, start):
    """The places that the arcs of the row join with the start, whichever way they point."""
    reached = {start}
    for _ in row:
        for at in row:
            if set(arcs[at][:2]) & reached:
                reached |= set(arcs[at][:2])
    return reached


def plain_no_ring(arcs, row):
    """Whether no arc joins what the other arcs join."""
    for at in row:
        others = [other for other in row if other != at]
        if arcs[at][1] in plain_joined_to(arcs, others, arcs[at][0]):
            return False
    return True


def plain_cost(arcs, row):
    return sum(arcs[at][3] for at in row)


def least_cost(arcs):
    """The cost of the cheapest of all forests that join each arc's two places."""
    rows = [row for many in range(len(arcs) + 1) for row in itertools.combinations(range(len(arcs)), many)]
    forests = [row for row in rows if plain_no_ring(arcs, row)]
    most = max(len(row) for row in forests)
    return min(plain_cost(arcs, row) for row in forests if len(row) == most)


class TreesCase(unittest.TestCase):
    def assert_way(self, arcs, forest, at, way):
        """The arcs, each of the forest and none twice, lead from the one place to the other in their order."""
        self.assertIs(type(way), list)
        self.assertEqual(len(set(way)), len(way))
        place = arcs[at][0]
        come_by = [place]
        for step in way:
            self.assertIs(type(step), int)
            self.assertIn(step, forest)
            self.assertIn(place, arcs[step][:2])
            place = arcs[step][1] if arcs[step][0] == place else arcs[step][0]
            come_by.append(place)
        self.assertEqual(place, arcs[at][1], (arcs, forest, at, way))
        self.assertEqual(len(set(come_by)), len(come_by))

    def assert_reasons(self, arcs, forest):
        """Holds every arc against the forest, and gives the reasons."""
        before = copy.deepcopy((arcs, forest))
        told = reasons(arcs, forest)
        self.assertEqual((arcs, forest), before)
        self.assertIs(type(told), dict)
        self.assertEqual(sorted(told), [at for at in range(len(arcs)) if at not in forest])
        for at, way in told.items():
            self.assertIs(type(at), int)
            if arcs[at][1] in plain_joined_to(arcs, forest, arcs[at][0]):
                self.assert_way(arcs, forest, at, way)
            else:
                self.assertIsNone(way)
        return told

    def assert_joined(self, places, arcs):
        """Holds the forest and its reasons against every arc, and gives the forest."""
        before = copy.deepcopy(arcs)
        forest = joined(places, arcs)
        self.assertEqual(arcs, before)
        self.assertIs(type(forest), list)
        self.assertTrue(all(type(at) is int for at in forest))
        self.assertEqual(forest, sorted(set(forest)))
        self.assertTrue(set(forest) <= set(range(len(arcs))))
        self.assertTrue(plain_no_ring(arcs, forest), (arcs, forest))
        for at, way in self.assert_reasons(arcs, forest).items():
            self.assertIsNotNone(way, (arcs, forest, at))
            # All arcs that stand in its stead are taken ahead of it: they cost less, or as much and stand ahead.
            for step in way:
                self.assertLess((arcs[step][3], step), (arcs[at][3], at), (arcs, forest))
        self.assertEqual(arcs, before)
        return forest


class JoinedTest(TreesCase):
    def test_written_out(self):
        self.assertEqual(self.assert_joined(4, SQUARE), [1, 3, 4])
        self.assertEqual(self.assert_joined(2, [(0, 1, 1, 5)]), [0])
        self.assertEqual(self.assert_joined(3, [(0, 1, 1, 3), (1, 2, 1, 2), (2, 0, 1, 1)]), [1, 2])
        self.assertEqual(self.assert_joined(3, [(0, 1, 1, 1), (1, 2, 1, 2), (2, 0, 1, 3)]), [0, 1])

    def test_no_arcs(self):
        for places in range(1, 13):
            self.assertEqual(self.assert_joined(places, []), [])

    def test_arcs_from_a_place_to_itself(self):
        for cost in [0, 1, -1, -NINES]:
            self.assertEqual(self.assert_joined(1, [(0, 0, 1, cost)] * 40), [])
            self.assertEqual(self.assert_joined(3, [(1, 1, 1, cost), (0, 1, 1, 5), (0, 0, 1, cost)]), [1])

    def test_arcs_of_like_costs(self):
        """Of like costs the one that stands ahead is taken, whichever way it points."""
        self.assertEqual(self.assert_joined(2, line((0, 1), (0, 1))), [0])
        self.assertEqual(self.assert_joined(2, line((1, 0), (0, 1))), [0])
        self.assertEqual(self.assert_joined(3, line((0, 1), (1, 2), (2, 0))), [0, 1])
        self.assertEqual(self.assert_joined(4, line((2, 3), (2, 3), (3, 0), (0, 2), (1, 0))), [0, 2, 4])
        self.assertEqual(self.assert_joined(2, [(0, 1, 1, 2), (0, 1, 1, 1), (0, 1, 1, 1)]), [1])
        self.assertEqual(self.assert_joined(12, line((0, 1)) * 40), [0])
        for ends in itertools.permutations([(0, 1), (1, 2), (2, 3), (3, 0)]):
            self.assertEqual(self.assert_joined(4, line(*ends)), [0, 1, 2])

    def test_the_way_that_arcs_point_counts_for_nothing(self):
        for turned in itertools.product([False, True], repeat=4):
            ends = [(0, 1), (2, 1), (2, 3), (0, 3)]
            arcs = [
                (to, begin, 1, at) if back else (begin, to, 1, at)
                for at, ((begin, to), back) in enumerate(zip(ends, turned))
            ]
            self.assertEqual(self.assert_joined(4, arcs), [0, 1, 2])

    def test_places_that_nothing_joins(self):
        self.assertEqual(self.assert_joined(12, line((0, 1), (1, 0), (10, 11))), [0, 2])
        arcs = line((0, 1), (1, 2), (2, 0), (3, 4), (4, 5), (5, 3))
        self.assertEqual(self.assert_joined(7, arcs), [0, 1, 3, 4])

    def test_costs_below_nought_join_no_more_than_is_not_joined(self):
        self.assertEqual(self.assert_joined(3, [(0, 1, 1, -1), (1, 2, 1, -2), (2, 0, 1, -3)]), [1, 2])
        self.assertEqual(self.assert_joined(2, [(0, 1, 1, -1), (0, 1, 1, -2), (0, 1, 1, 7)]), [1])

    def test_costs_above_nought_are_no_reason_to_leave_places_out(self):
        self.assertEqual(self.assert_joined(3, [(0, 1, 1, NINES), (1, 2, 1, 0)]), [0, 1])

    def test_rooms_count_for_nothing(self):
        for room in [0, -1, 7, NINES, -NINES]:
            self.assertEqual(self.assert_joined(3, [(0, 1, room, 2), (1, 2, 5, 2), (2, 0, room, 1)]), [0, 2])

    def test_costs_of_a_hundred_figures(self):
        arcs = [(0, 1, 1, LONG), (1, 2, 1, LONG - 1), (2, 0, 1, LONG + 1), (0, 2, 1, -NINES), (1, 0, 1, NINES)]
        self.assertEqual(self.assert_joined(3, arcs), [1, 3])

    def test_twelve_places_and_forty_arcs(self):
        ring = line(*[(at, (at + 1) % 12) for at in range(12)])
        self.assertEqual(self.assert_joined(12, ring * 3 + ring[:4]), list(range(11)))
        falling = [(at % 12, (at + 1) % 12, 1, -at) for at in range(40)]
        self.assertEqual(self.assert_joined(12, falling), list(range(29, 40)))

    def test_all_small_networks(self):
        ends = [(0, 1), (1, 2), (2, 0), (1, 1), (1, 0)]
        kinds = [(begin, to, 1, cost) for begin, to in ends for cost in [-1, 0, 1]]
        for arcs in itertools.product(kinds, repeat=3):
            arcs = list(arcs)
            self.assertEqual(plain_cost(arcs, self.assert_joined(3, arcs)), least_cost(arcs))

    def test_drawn_networks(self):
        chance = random.Random(38)
        for places in [1, 2, 3, 5, 8, 12]:
            for many in [1, 3, 6, 12, 40]:
                for most in [0, 1, 3, 100]:
                    for _ in range(3):
                        arcs = drawn_arcs(chance, places, many, 0, most)
                        forest = self.assert_joined(places, arcs)
                        if many <= 6:
                            self.assertEqual(plain_cost(arcs, forest), least_cost(arcs))


class RefusedTest(unittest.TestCase):
    def test_what_is_no_network(self):
        for places, arcs in NO_NETWORKS:
            before = copy.deepcopy(arcs)
            with self.assertRaises(NoNetwork, msg=(places, arcs)):
                joined(places, arcs)
            self.assertEqual(arcs, before)


class ReasonsTest(TreesCase):
    def test_written_out(self):
        self.assertEqual(self.assert_reasons(SQUARE, [1, 3, 4]), {0: [4, 1], 2: [3, 4], 5: [], 6: [1]})

    def test_no_arcs(self):
        self.assertEqual(reasons([], []), {})

    def test_no_arc_is_left_out(self):
        self.assertEqual(reasons(line((0, 1)), [0]), {})
        self.assertEqual(reasons(line((0, 1), (3, 1)), [0, 1]), {})

    def test_in_the_order_of_the_way(self):
        """From the first place to the second, not by where the arcs stand and not the other way round."""
        arcs = line((2, 3), (0, 1), (2, 1), (0, 3), (3, 0), (3, 1), (1, 3))
        told = self.assert_reasons(arcs, [0, 1, 2])
        self.assertEqual(told, {3: [1, 2, 0], 4: [0, 2, 1], 5: [0, 2], 6: [2, 0]})

    def test_the_order_in_which_the_forest_is_handed_in_counts_for_nothing(self):
        arcs = line((2, 3), (0, 1), (2, 1), (0, 3), (3, 0), (1, 1), (5, 1))
        for forest in itertools.permutations([0, 1, 2]):
            self.assertEqual(reasons(arcs, list(forest)), {3: [1, 2, 0], 4: [0, 2, 1], 5: [], 6: None})

    def test_one_place(self):
        self.assertEqual(self.assert_reasons([(0, 0, 1, 1), (0, 0, 1, -1)], []), {0: [], 1: []})
        self.assertEqual(self.assert_reasons([(0, 1, 1, 1), (1, 1, 1, 1), (7, 7, 1, 1)], [0]), {1: [], 2: []})

    def test_a_forest_that_leads_not_everywhere(self):
        arcs = line((0, 1), (1, 2), (0, 2), (2, 3), (3, 4), (4, 2), (4, 4))
        self.assertEqual(self.assert_reasons(arcs, []), {0: None, 1: None, 2: None, 3: None, 4: None, 5: None, 6: []})
        told = self.assert_reasons(arcs, [0, 4])
        self.assertEqual(told, {1: None, 2: None, 3: None, 5: None, 6: []})
        told = self.assert_reasons(arcs, [0, 1, 4])
        self.assertEqual(told, {2: [0, 1], 3: None, 5: None, 6: []})

    def test_a_forest_that_is_not_the_cheapest(self):
        arcs = [(0, 1, 1, 9), (1, 2, 1, 9), (2, 0, 1, 1)]
        self.assertEqual(self.assert_reasons(arcs, [0, 1]), {2: [1, 0]})

    def test_a_longest_way(self):
        arcs = line(*[(at, at + 1) for at in range(11)]) + line((0, 11), (11, 0))
        told = self.assert_reasons(arcs, list(range(11)))
        self.assertEqual(told, {11: list(range(11)), 12: list(range(11))[::-1]})

    def test_somewhat_more_places_and_arcs_are_not_refused(self):
        arcs = line(*[(at, at + 1) for at in range(19)]) + line((0, 19)) * 30
        told = self.assert_reasons(arcs, list(range(19)))
        self.assertEqual(told[19], list(range(19)))
        self.assertEqual(len(told), 30)

    def test_drawn_forests(self):
        chance = random.Random(39)
        none = 0
        for places in [2, 4, 7, 12]:
            for many in [3, 10, 40]:
                for _ in range(15):
                    arcs = drawn_arcs(chance, places, many, 0, 9)
                    forest = []
                    for at in chance.sample(range(many), many // 2):
                        if plain_no_ring(arcs, forest + [at]):
                            forest.append(at)
                    none += list(self.assert_reasons(arcs, forest).values()).count(None)
        self.assertGreater(none, 50)


class HandedInTest(unittest.TestCase):
    def test_lists_that_are_told_are_new_ones(self):
        handed = list(SQUARE)
        first = joined(4, handed)
        self.assertEqual(first, [1, 3, 4])
        told = reasons(handed, first)
        again = reasons(handed, first)
        first.append(99)
        told[0].append(99)
        told[5].append(99)
        told[99] = None
        self.assertEqual(joined(4, handed), [1, 3, 4])
        self.assertEqual(again, {0: [4, 1], 2: [3, 4], 5: [], 6: [1]})
        self.assertEqual(reasons(handed, [1, 3, 4]), again)
        self.assertEqual(handed, SQUARE)

    def test_each_way_is_a_list_of_its_own(self):
        told = reasons(line((0, 1), (0, 1), (0, 1), (1, 1), (1, 1)), [0])
        told[1].append(99)
        told[3].append(99)
        self.assertEqual(told, {1: [0, 99], 2: [0], 3: [99], 4: []})


if __name__ == "__main__":
    unittest.main()
