"""The names, arguments and files of the interface, as far as it has landed."""

import importlib
import inspect
import unittest

FUNCTIONS = {
    "rows": {
        "is_row": ["thing"],
        "counts": ["row"],
        "near_counts": ["row"],
        "stretches": ["row"],
        "row_of": ["numbers", "counts"],
    },
    "shelves": {
        "is_shelf": ["thing"],
        "is_line": ["thing"],
        "past": ["row", "shelf"],
        "through": ["row", "line"],
        "moved": ["row", "shelf"],
        "merged": ["line"],
        "past_with": ["row", "word", "places"],
    },
    "needs": {
        "needed": ["row"],
        "places": ["row"],
        "shelves": ["row", "places"],
        "sorted_by": ["many", "places"],
    },
    "lettings": {
        "comes_out": ["row", "places", "letting"],
        "own_way": ["row", "places"],
        "gained": ["row", "places", "letting"],
    },
    "ahead": {
        "how_many": ["row", "places"],
        "ahead": ["row", "places"],
        "can_come": ["row", "places"],
    },
}


class TestInterface(unittest.TestCase):
    def test_functions_are_defined_where_the_interface_lists_them(self):
        for name, functions in FUNCTIONS.items():
            module = importlib.import_module("shelfrows." + name)
            for word, arguments in functions.items():
                with self.subTest(file=name, function=word):
                    function = getattr(module, word)
                    self.assertTrue(inspect.isfunction(function))
                    self.assertEqual(function.__module__, module.__name__)
                    self.assertEqual(list(inspect.signature(function).parameters), arguments)

    def test_arguments_may_be_handed_in_by_place(self):
        for name, functions in FUNCTIONS.items():
            module = importlib.import_module("shelfrows." + name)
            for word in functions:
                for one in inspect.signature(getattr(module, word)).parameters.values():
                    self.assertEqual(one.kind, one.POSITIONAL_OR_KEYWORD)
                    self.assertIs(one.default, one.empty)
