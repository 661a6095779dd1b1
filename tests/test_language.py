"""Rules of the language that a test can see: files, sizes, characters and imports."""

import ast
import unittest
from pathlib import Path

ROOT = Path(__file__).resolve().parent.parent
FILES = sorted((ROOT / "rotward").glob("*.py"))
LIBRARY = {"heapq", "math", "itertools", "collections"}
REFUSED = (ast.Global, ast.AsyncFunctionDef, ast.Div, ast.Import)


def nodes(file):
    return list(ast.walk(ast.parse(file.read_text(encoding="utf-8"))))


class TestLanguage(unittest.TestCase):
    def test_the_folder_contains_python_only(self):
        names = [path.name for path in (ROOT / "rotward").iterdir() if path.name != "__pycache__"]
        self.assertEqual(sorted(names), [file.name for file in FILES])
        self.assertIn("__init__.py", names)

    def test_sizes_and_characters(self):
        for file in FILES:
            lines = file.read_text(encoding="utf-8").split("\n")
            self.assertLessEqual(len(lines), 399, file)
            for line in lines:
                self.assertLessEqual(len(line), 120, (file, line))
                self.assertTrue(all(" " <= letter <= "~" for letter in line), (file, line))

    def test_functions_are_small(self):
        for file in FILES:
            for node in nodes(file):
                if isinstance(node, ast.FunctionDef):
                    self.assertLessEqual(node.end_lineno - node.lineno + 1, 40, (file, node.name))

    def test_imports_come_from_the_package_and_the_library_only(self):
        for file in FILES:
            for node in nodes(file):
                if isinstance(node, ast.ImportFrom):
                    self.assertEqual(node.level, 0, file)
                    first = node.module.split(".")[0]
                    self.assertIn(first, LIBRARY | {"rotward"}, file)

    def test_no_refused_part_of_the_language(self):
        for file in FILES:
            for node in nodes(file):
                self.assertNotIsInstance(node, REFUSED, file)
                if isinstance(node, ast.Constant):
                    self.assertNotIsInstance(node.value, float, file)
