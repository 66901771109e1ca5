"""Tests of the form of the code: what shared/LANGUAGE.md limits and a test can count."""

import ast
import pathlib
import unittest

PACKAGE = pathlib.Path(__file__).resolve().parent.parent / "vouchdoor"
FILES = sorted(PACKAGE.rglob("*.py"))
LIBRARY = ["heapq", "math", "itertools", "collections"]


def tree_of(file):
    return ast.parse(file.read_text(encoding="utf-8"))


class FormTest(unittest.TestCase):

    def test_folder_has_nothing_but_python_files(self):
        self.assertIn(PACKAGE / "__init__.py", FILES)
        for path in PACKAGE.rglob("*"):
            if "__pycache__" not in path.parts:
                self.assertRegex(path.name, r"\A[a-z0-9_]+\.py\Z")

    def test_characters(self):
        for file in FILES:
            for character in file.read_text(encoding="utf-8"):
                self.assertTrue(character == "\n" or " " <= character <= "~", (file.name, character))

    def test_lengths_of_files_and_lines(self):
        for file in FILES:
            lines = file.read_text(encoding="utf-8").split("\n")
            self.assertLessEqual(len(lines), 399, file.name)
            for line in lines:
                self.assertLessEqual(len(line), 120, (file.name, line))

    def test_lengths_of_functions(self):
        for file in FILES:
            for node in ast.walk(tree_of(file)):
                if isinstance(node, ast.FunctionDef):
                    self.assertLessEqual(node.end_lineno - node.lineno + 1, 40, (file.name, node.name))

    def test_imports(self):
        for file in FILES:
            for node in ast.walk(tree_of(file)):
                self.assertNotIsInstance(node, ast.Import, file.name)
                if isinstance(node, ast.ImportFrom):
                    own = node.level == 0 and node.module.startswith("vouchdoor.")
                    self.assertTrue(own or node.module in LIBRARY, (file.name, node.module))

    def test_no_floats_and_no_division(self):
        for file in FILES:
            for node in ast.walk(tree_of(file)):
                self.assertNotIsInstance(node, ast.Div, file.name)
                if isinstance(node, ast.Constant):
                    self.assertNotIsInstance(node.value, (float, complex), file.name)


if __name__ == "__main__":
    unittest.main()
