"""The rules of the language that can be told by a look: characters, sizes, imports."""

import ast
import os
import unittest

ROOT = os.path.dirname(os.path.dirname(os.path.abspath(__file__)))
PACKAGE = os.path.join(ROOT, "ropesays")
LIBRARY = ("heapq", "math", "itertools", "collections", "__future__")


def files():
    """The names of the package's files, with their texts."""
    told = {}
    for name in sorted(os.listdir(PACKAGE)):
        if name != "__pycache__":
            with open(os.path.join(PACKAGE, name), encoding="utf-8", newline="") as file:
                told[name] = file.read()
    return told


class TestRules(unittest.TestCase):

    def test_file_names(self):
        for name in files():
            self.assertRegex(name, "^[a-z0-9_]+[.]py$")

    def test_characters_and_sizes(self):
        for name, text in files().items():
            lines = text.split("\n")
            self.assertLessEqual(len(lines), 399, name)
            for line in lines:
                self.assertLessEqual(len(line), 120, name)
                self.assertTrue(all(" " <= sign <= "~" for sign in line), (name, line))

    def test_functions_are_small(self):
        for name, text in files().items():
            for node in ast.walk(ast.parse(text)):
                if isinstance(node, ast.FunctionDef):
                    self.assertLessEqual(node.end_lineno - node.lineno + 1, 40, (name, node.name))

    def test_imports(self):
        for name, text in files().items():
            for node in ast.walk(ast.parse(text)):
                self.assertNotIsInstance(node, ast.Import, name)
                if isinstance(node, ast.ImportFrom):
                    self.assertEqual(node.level, 0, name)
                    self.assertIn(node.module.split(".")[0], ("ropesays", *LIBRARY), name)


if __name__ == "__main__":
    unittest.main()
