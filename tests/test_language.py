"""Some rules of the language that the program keeps to, as far as they are easily counted."""

import ast
import unittest
from pathlib import Path

PACKAGE = Path(__file__).resolve().parent.parent / "shelfrows"
LIBRARY = ("collections", "heapq", "itertools", "math")
FILES = sorted(path for path in PACKAGE.rglob("*") if path.is_file() and path.suffix != ".pyc")


class TestLanguage(unittest.TestCase):
    def test_the_package_holds_nothing_but_files_of_the_language(self):
        self.assertIn(PACKAGE / "__init__.py", FILES)
        for path in FILES:
            self.assertEqual((path.suffix, path.parent), (".py", PACKAGE))

    def test_lines_files_and_functions_are_short(self):
        for path in FILES:
            lines = path.read_text("utf-8").splitlines()
            self.assertLessEqual(len(lines), 399, path)
            self.assertLessEqual(max(len(line) for line in lines), 120, path)
            for node in ast.walk(ast.parse(path.read_text("utf-8"))):
                if isinstance(node, ast.FunctionDef):
                    self.assertLessEqual(node.end_lineno - node.lineno + 1, 40, node.name)

    def test_characters_are_plain(self):
        for path in FILES:
            for character in path.read_text("utf-8"):
                self.assertTrue(character == "\n" or " " <= character <= "~", path)

    def test_imports_stand_on_top_and_name_the_package_or_the_library(self):
        for path in FILES:
            tree = ast.parse(path.read_text("utf-8"))
            for node in ast.walk(tree):
                self.assertNotIsInstance(node, ast.Import)
                if isinstance(node, ast.ImportFrom):
                    self.assertIn(node, tree.body)
                    own = node.module.startswith("shelfrows.")
                    self.assertTrue(own or node.module in LIBRARY, path)
                    self.assertEqual([name.asname for name in node.names if name.asname], [])
