"""[0.1] and [0.3] over the whole program: for each function of the interface, one question or several."""

import copy
import importlib
import math
import os
import subprocess
import sys
import unittest

from test_interface import FUNCTIONS

SQUARE = [(0, 1, 3, 2), (0, 2, 2, -1), (1, 2, 1, 0), (1, 3, 2, 5), (2, 3, 4, 1), (2, 2, 7, 3), (0, 1, 3, 2)]
RING = [(0, 1, 1, 2), (1, 0, 1, -3), (1, 2, 1, 0)]
PAIRS = [(0, 0), (0, 1), (1, 0), (2, 0), (0, 0)]
COSTS = [[4, 1, 3], [2, 0, 5]]
HALF = (1, 2)

QUESTIONS = {
    "ratio": [(6, -4), (0, 7)],
    "plus": [(HALF, (1, 3))],
    "minus": [(HALF, (1, 3))],
    "times": [(HALF, (2, 3))],
    "over": [(HALF, (2, 3))],
    "is_less": [(HALF, (2, 3)), (HALF, HALF)],
    "dot": [([HALF, (1, 3)], [(4, 1), (3, 5)]), ([], [])],
    "is_flow": [(4, SQUARE, 0, 3, [2, 1, 0, 2, 1, 7, 0]), (4, SQUARE, 0, 3, [1])],
    "size_of": [(4, SQUARE, 3, [2, 1, 0, 2, 1, 7, 0])],
    "cut_size": [(SQUARE, [0, 2])],
    "cost_of": [(SQUARE, [2, 1, 0, 2, 1, 7, 0])],
    "greatest": [(4, SQUARE, 0, 3), (4, SQUARE, 3, 0)],
    "greatest_size": [(4, SQUARE, 0, 3)],
    "nearest": [(4, SQUARE, 0), (4, SQUARE, 1), (3, RING, 0)],
    "way_to": [(4, SQUARE, 0, 3), (4, SQUARE, 2, 2)],
    "length_of": [(SQUARE, [0, 3])],
    "is_walk": [(SQUARE, [0, 3], 0, 3), (SQUARE, [3, 0], 0, 3)],
    "numbers_for": [(2, [(0, 1, -2), (1, 0, 5)]), (2, [(0, 1, -2), (1, 0, 1)]), (0, [])],
    "kept": [([-2, 0], [(0, 1, -2), (1, 0, 5)])],
    "is_ring": [([(0, 1, -2), (1, 0, 1)], [1, 0])],
    "paired": [(3, 2, PAIRS), (0, 0, []), (5, 5, [])],
    "is_cover": [(PAIRS, ([0], [0])), (PAIRS, ([1], []))],
    "are_apart": [(PAIRS, [1, 2]), (PAIRS, [0, 2])],
    "given_columns": [(COSTS,), ([[7]],)],
    "total": [(COSTS, [1, 0])],
    "are_prices": [(COSTS, [1, 0], [0, 0, 0]), (COSTS, [5, 5], [0, 0, 0])],
    "joined": [(4, SQUARE), (3, [])],
    "reasons": [(SQUARE, [1, 2, 4]), (SQUARE, [])],
    "solved": [
        ([[(2, 3), HALF]], [(5, 7)], [(3, 4), (1, 1)]),
        ([[(1, 1)]], [(-1, 2)], [(1, 1)]),
        ([[(-1, 1), (0, 1)]], [(-1, 2)], [(1, 1), (1, 1)]),
        ([], [], [(0, 1)]),
    ],
    "keeps": [([[(2, 3)]], [(5, 7)], [(1, 1)]), ([[(2, 3)]], [(5, 7)], [(2, 1)])],
    "are_prices_of": [([[(2, 3)]], [(5, 7)], [(2, 1)]), ([[(2, 3)]], [(5, 7)], [(1, 1)])],
}

TRUTHS = "is_less is_flow is_walk kept is_ring is_cover are_apart are_prices keeps are_prices_of".split()
WHOLES = "size_of cut_size cost_of greatest_size length_of total".split()
RATIOS = "ratio plus minus times over dot".split()


def every_function():
    return [
        (name, getattr(importlib.import_module(module), name))
        for module, functions in FUNCTIONS.items()
        for name in functions
    ]


def every_question():
    return [(name, function, asked) for name, function in every_function() for asked in QUESTIONS[name]]


def lists_within(value):
    """Every list and dict in the value, itself among them."""
    found = [value] if isinstance(value, (list, dict)) else []
    if isinstance(value, (list, tuple)):
        inner = value
    else:
        inner = value.values() if isinstance(value, dict) else []
    for part in inner:
        found.extend(lists_within(part))
    return found


def leaves_of(value):
    if isinstance(value, dict):
        return [leaf for part in value.items() for leaf in leaves_of(part)]
    if isinstance(value, (list, tuple)):
        return [leaf for part in value for leaf in leaves_of(part)]
    return [value]


def answers_told():
    """All answers as one text."""
    return repr([(name, function(*copy.deepcopy(asked))) for name, function, asked in every_question()])


class WholeTest(unittest.TestCase):
    def test_every_function_is_asked(self):
        self.assertEqual([name for name, _ in every_function()], list(QUESTIONS))
        for name in QUESTIONS:
            self.assertGreater(len(QUESTIONS[name]), 0)

    def test_nothing_that_is_handed_in_is_changed(self):
        for name, function, asked in every_question():
            with self.subTest(name=name, asked=asked):
                handed = copy.deepcopy(asked)
                function(*handed)
                self.assertEqual(handed, asked)

    def test_nothing_that_is_handed_in_is_kept(self):
        """What is done to it afterwards changes neither the answer nor the next one."""
        for name, function, asked in every_question():
            with self.subTest(name=name, asked=asked):
                handed = copy.deepcopy(asked)
                told = function(*handed)
                before = copy.deepcopy(told)
                for row in lists_within(handed):
                    row.clear()
                self.assertEqual(told, before)
                self.assertEqual(function(*copy.deepcopy(asked)), before)

    def test_lists_that_are_told_are_new_ones(self):
        for name, function, asked in every_question():
            with self.subTest(name=name, asked=asked):
                handed = copy.deepcopy(asked)
                first = function(*handed)
                again = function(*handed)
                self.assertEqual(first, again)
                rows = lists_within(first) + lists_within(again)
                self.assertEqual(len({id(row) for row in rows}), len(rows))
                self.assertEqual({id(row) for row in rows} & {id(row) for row in lists_within(handed)}, set())

    def test_the_kinds_of_answers(self):
        for name, function, asked in every_question():
            with self.subTest(name=name, asked=asked):
                told = function(*copy.deepcopy(asked))
                if name in TRUTHS:
                    self.assertIs(type(told), bool)
                    continue
                for leaf in leaves_of(told):
                    self.assertIn(type(leaf), (int, str, type(None)))
                if name in WHOLES:
                    self.assertIs(type(told), int)
                if name in RATIOS:
                    self.assertEqual([type(part) for part in told], [int, int])
                    self.assertIs(type(told), tuple)
                    self.assertGreater(told[1], 0)
                    self.assertEqual(math.gcd(*told), 1)

    def test_truths_of_both_kinds_are_told(self):
        """So that the questions above are not all answered alike."""
        told = [function(*asked) for name, function, asked in every_question() if name in TRUTHS]
        self.assertGreater(told.count(True), 5)
        self.assertGreater(told.count(False), 5)

    def test_the_same_answers_every_time(self):
        """In new processes, each with another order of sets."""
        here = answers_told()
        folder = os.path.dirname(os.path.abspath(__file__))
        for seed in ["0", "1", "77"]:
            around = dict(os.environ, PYTHONHASHSEED=seed)
            around["PYTHONPATH"] = os.pathsep.join([os.path.dirname(folder), folder])
            asked = [sys.executable, "-c", "import test_whole; print(test_whole.answers_told())"]
            there = subprocess.run(asked, env=around, capture_output=True, text=True, check=True)
            self.assertEqual(there.stdout.strip(), here)


if __name__ == "__main__":
    unittest.main()
