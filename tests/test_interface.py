"""The names, arguments and files of the interface."""

import importlib
import inspect
import unittest

FUNCTIONS = {
    "rows": {
        "is_row": ["thing"],
        "counts": ["row"],
        "near_counts": ["row"],
        "stretches": ["row"],
        "row_of": ["numbers", "counts"],
    },
    "shelves": {
        "is_shelf": ["thing"],
        "is_line": ["thing"],
        "past": ["row", "shelf"],
        "through": ["row", "line"],
        "moved": ["row", "shelf"],
        "merged": ["line"],
        "past_with": ["row", "word", "places"],
    },
    "needs": {
        "needed": ["row"],
        "places": ["row"],
        "shelves": ["row", "places"],
        "sorted_by": ["many", "places"],
    },
    "lettings": {
        "comes_out": ["row", "places", "letting"],
        "own_way": ["row", "places"],
        "gained": ["row", "places", "letting"],
    },
    "ahead": {
        "how_many": ["row", "places"],
        "ahead": ["row", "places"],
        "can_come": ["row", "places"],
    },
    "mending": {
        "move": ["row", "one", "other"],
        "mended": ["row"],
    },
    "blocks": {
        "may_mark": ["row"],
        "blocks": ["row"],
        "off": ["row"],
        "opposite": ["row"],
        "need_just": ["many", "places"],
    },
    "texts": {
        "row_text": ["row"],
        "line_text": ["line"],
        "read_row": ["text"],
        "read_line": ["text"],
    },
}

METHODS = {
    "__init__": ["shelves"],
    "come": ["number"],
    "mark": [],
    "finish": [],
    "standing": [],
    "out": [],
    "back": [],
    "twin": [],
    "__len__": [],
    "__str__": [],
    "__eq__": ["other"],
}


class TestInterface(unittest.TestCase):
    def test_functions_are_defined_where_the_interface_lists_them(self):
        for name, functions in FUNCTIONS.items():
            module = importlib.import_module("shelfrows." + name)
            for word, arguments in functions.items():
                with self.subTest(file=name, function=word):
                    function = getattr(module, word)
                    self.assertTrue(inspect.isfunction(function))
                    self.assertEqual(function.__module__, module.__name__)
                    self.assertEqual(list(inspect.signature(function).parameters), arguments)

    def test_arguments_may_be_handed_in_by_place(self):
        for name, functions in FUNCTIONS.items():
            module = importlib.import_module("shelfrows." + name)
            for word in functions:
                for one in inspect.signature(getattr(module, word)).parameters.values():
                    self.assertEqual(one.kind, one.POSITIONAL_OR_KEYWORD)
                    self.assertIs(one.default, one.empty)

    def test_the_class_is_defined_in_lines_with_each_method_in_itself(self):
        lines = importlib.import_module("shelfrows.lines")
        self.assertTrue(inspect.isclass(lines.Line))
        self.assertEqual(lines.Line.__module__, "shelfrows.lines")
        for word, arguments in METHODS.items():
            with self.subTest(method=word):
                method = vars(lines.Line)[word]
                self.assertTrue(inspect.isfunction(method))
                self.assertEqual(list(inspect.signature(method).parameters)[1:], arguments)
                for one in inspect.signature(method).parameters.values():
                    self.assertEqual(one.kind, one.POSITIONAL_OR_KEYWORD)
                    self.assertIs(one.default, one.empty)
