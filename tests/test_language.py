"""Rules of the language that a test can see: files, sizes, characters and imports."""

import ast
import builtins
import unittest
from pathlib import Path

ROOT = Path(__file__).resolve().parent.parent
FILES = sorted((ROOT / "rotward").glob("*.py"))
LIBRARY = {"heapq", "math", "itertools", "collections"}
BUILTINS = set("""len range enumerate zip min max sum abs sorted reversed int str bool list tuple dict set
    isinstance ord repr any all divmod ValueError""".split())
REFUSED = (ast.Global, ast.AsyncFunctionDef, ast.Div, ast.Import)


def nodes(file):
    return list(ast.walk(ast.parse(file.read_text(encoding="utf-8"))))


class TestLanguage(unittest.TestCase):
    def test_the_folder_contains_python_only(self):
        names = [path.name for path in (ROOT / "rotward").iterdir() if path.name != "__pycache__"]
        self.assertEqual(sorted(names), [file.name for file in FILES])
        self.assertIn("__init__.py", names)

    def test_sizes_and_characters(self):
        for file in FILES:
            lines = file.read_text(encoding="utf-8").split("\n")
            self.assertLessEqual(len(lines), 399, file)
            for line in lines:
                self.assertLessEqual(len(line), 120, (file, line))
                self.assertTrue(all(" " <= letter <= "~" for letter in line), (file, line))

    def test_functions_are_small(self):
        for file in FILES:
            for node in nodes(file):
                if isinstance(node, ast.FunctionDef):
                    self.assertLessEqual(node.end_lineno - node.lineno + 1, 40, (file, node.name))

    def test_imports_come_from_the_package_and_the_library_only(self):
        for file in FILES:
            for node in nodes(file):
                if isinstance(node, ast.ImportFrom):
                    self.assertEqual(node.level, 0, file)
                    first = node.module.split(".")[0]
                    self.assertIn(first, LIBRARY | {"rotward"}, file)

    def test_no_name_is_that_of_a_builtin(self):
        for file in FILES:
            for node in nodes(file):
                names = [getattr(node, "arg", None)]
                if isinstance(node, (ast.FunctionDef, ast.ClassDef)):
                    names.append(node.name)
                if isinstance(node, ast.Name) and isinstance(node.ctx, ast.Store):
                    names.append(node.id)
                for name in names:
                    if name not in (None, "_", "__init__"):
                        self.assertFalse(hasattr(builtins, name), (file, name))

    def test_few_builtins_are_used(self):
        for file in FILES:
            for node in nodes(file):
                # Doctests of the same run leave a builtin `_` behind.
                if isinstance(node, ast.Name) and hasattr(builtins, node.id) and node.id != "_":
                    self.assertIn(node.id, BUILTINS, file)

    def test_no_modules_import_from_each_other(self):
        known = {}
        for file in FILES:
            imports = [node for node in nodes(file) if isinstance(node, ast.ImportFrom)]
            known["rotward." + file.stem] = {node.module for node in imports} - LIBRARY
        while known:
            ready = [name for name in known if not known[name]]
            self.assertTrue(ready, known)
            known = {name: known[name] - set(ready) for name in known if name not in ready}

    def test_functions_have_no_decorators_and_texts_no_percent(self):
        for file in FILES:
            for node in nodes(file):
                self.assertFalse(getattr(node, "decorator_list", []), file)
                if isinstance(node, ast.Constant) and isinstance(node.value, str):
                    self.assertNotIn("%", node.value, file)

    def test_no_refused_part_of_the_language(self):
        for file in FILES:
            for node in nodes(file):
                self.assertNotIsInstance(node, REFUSED, file)
                if isinstance(node, ast.Constant):
                    self.assertNotIsInstance(node.value, float, file)
