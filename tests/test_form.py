"""What can be seen of LANGUAGE.md without running the program: files, sizes, signs and imports."""

import ast
import pathlib
import unittest

import clearfloor

PACKAGE = pathlib.Path(clearfloor.__file__).resolve().parent
FILES = sorted(PACKAGE.glob("**/*.py"))
LIBRARY = {"heapq", "math", "itertools", "collections"}


def trees():
    return [(path, ast.parse(path.read_text())) for path in FILES]


class FormTest(unittest.TestCase):
    def test_the_folder_holds_nothing_else(self):
        found = [path for path in PACKAGE.iterdir() if path.name != "__pycache__"]
        self.assertEqual(sorted(found), [path for path in FILES if path.parent == PACKAGE])
        self.assertIn(PACKAGE / "__init__.py", FILES)

    def test_signs_and_sizes_of_files(self):
        for path in FILES:
            text = path.read_text()
            self.assertTrue(all(sign == "\n" or " " <= sign <= "~" for sign in text), path)
            lines = text.split("\n")
            self.assertLessEqual(len(lines), 399, path)
            self.assertLessEqual(max(len(line) for line in lines), 120, path)

    def test_sizes_of_functions(self):
        for path, tree in trees():
            for node in ast.walk(tree):
                if isinstance(node, ast.FunctionDef):
                    self.assertLessEqual(node.end_lineno - node.lineno + 1, 40, (path, node.name))

    def test_imports(self):
        for path, tree in trees():
            for node in ast.walk(tree):
                self.assertNotIsInstance(node, ast.Import, path)
                if isinstance(node, ast.ImportFrom):
                    self.assertIn(node, tree.body, path)
                    self.assertEqual(node.level, 0, path)
                    self.assertIn(node.module.partition(".")[0], LIBRARY | {"clearfloor"}, path)
                    self.assertNotIn("*", [name.name for name in node.names], path)

    def test_no_floats_and_no_percent_signs(self):
        for path, tree in trees():
            for node in ast.walk(tree):
                self.assertNotIsInstance(node, ast.Div, path)
                if isinstance(node, ast.Constant):
                    self.assertNotIsInstance(node.value, float, path)
                    if isinstance(node.value, str):
                        self.assertNotIn("%", node.value, path)
