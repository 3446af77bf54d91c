"""Tests of the form of the package's files."""

import ast
import unittest
from pathlib import Path

PACKAGE = Path(__file__).resolve().parent.parent / "blockpiles"
FILES = sorted(PACKAGE.glob("*.py"))
LIBRARY = {"math": {"gcd", "lcm"}, "itertools": {"combinations", "permutations"}}


class SourceTest(unittest.TestCase):
    def each_tree(self):
        for path in FILES:
            with self.subTest(path.name):
                yield path, ast.parse(path.read_text(encoding="ascii"))

    def test_nothing_but_files_of_python(self):
        names = [path.name for path in PACKAGE.iterdir() if path.name != "__pycache__"]
        self.assertEqual(sorted(names), [path.name for path in FILES])
        self.assertIn("__init__.py", names)

    def test_sizes(self):
        for path, tree in self.each_tree():
            lines = path.read_text(encoding="ascii").split("\n")
            self.assertLessEqual(len(lines), 399)
            self.assertLessEqual(max(map(len, lines)), 120)
            self.assertNotIn("\t", "".join(lines))
            for node in ast.walk(tree):
                if isinstance(node, ast.FunctionDef):
                    self.assertLessEqual(node.end_lineno - node.lineno + 1, 40, node.name)

    def test_imports(self):
        files = {f"blockpiles.{path.stem}" for path in FILES}
        for _, tree in self.each_tree():
            for node in ast.walk(tree):
                self.assertNotIsInstance(node, ast.Import)
                if isinstance(node, ast.ImportFrom):
                    names = {alias.name for alias in node.names}
                    self.assertEqual(node.level, 0)
                    self.assertTrue(node.module in files or names <= LIBRARY.get(node.module, set()), names)

    def test_whole_numbers_only(self):
        for _, tree in self.each_tree():
            for node in ast.walk(tree):
                self.assertNotIsInstance(node, ast.Div)
                if isinstance(node, ast.Constant):
                    self.assertNotIsInstance(node.value, (float, complex))

    def test_docstrings(self):
        for _, tree in self.each_tree():
            for node in ast.walk(tree):
                if isinstance(node, (ast.Module, ast.ClassDef, ast.FunctionDef)):
                    if getattr(node, "name", "") != "__init__":
                        self.assertIsNotNone(ast.get_docstring(node))


if __name__ == "__main__":
    unittest.main()
