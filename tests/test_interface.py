"""The names and arguments of the interface."""

import importlib
import inspect
import unittest

FUNCTIONS = {
    "surebest.ratios": {
        "ratio": ["top", "under"],
        "plus": ["one", "other"],
        "minus": ["one", "other"],
        "times": ["one", "other"],
        "over": ["one", "other"],
        "is_less": ["one", "other"],
        "dot": ["row", "other"],
    },
    "surebest.networks": {
        "is_flow": ["places", "arcs", "start", "goal", "amounts"],
        "size_of": ["places", "arcs", "goal", "amounts"],
        "cut_size": ["arcs", "side"],
        "cost_of": ["arcs", "amounts"],
    },
    "surebest.flows": {
        "greatest": ["places", "arcs", "start", "goal"],
        "greatest_size": ["places", "arcs", "start", "goal"],
    },
    "surebest.ways": {
        "nearest": ["places", "arcs", "start"],
        "way_to": ["places", "arcs", "start", "goal"],
        "length_of": ["arcs", "way"],
        "is_walk": ["arcs", "way", "start", "goal"],
    },
    "surebest.differences": {
        "numbers_for": ["many", "bounds"],
        "kept": ["numbers", "bounds"],
        "is_ring": ["bounds", "ring"],
    },
    "surebest.pairing": {
        "paired": ["rows", "columns", "pairs"],
        "is_cover": ["pairs", "cover"],
        "are_apart": ["pairs", "taken"],
    },
    "surebest.giving": {
        "given_columns": ["costs"],
        "total": ["costs", "found"],
        "are_prices": ["costs", "rows", "columns"],
    },
    "surebest.trees": {
        "joined": ["places", "arcs"],
        "reasons": ["arcs", "forest"],
    },
    "surebest.programs": {
        "solved": ["rows", "limits", "goal"],
        "keeps": ["rows", "limits", "parts"],
        "are_prices_of": ["rows", "goal", "prices"],
    },
}


class InterfaceTest(unittest.TestCase):
    def test_names_and_arguments(self):
        for module_name, functions in FUNCTIONS.items():
            module = importlib.import_module(module_name)
            for name, arguments in functions.items():
                with self.subTest(module=module_name, name=name):
                    parameters = inspect.signature(getattr(module, name)).parameters
                    self.assertEqual(list(parameters), arguments)


if __name__ == "__main__":
    unittest.main()
