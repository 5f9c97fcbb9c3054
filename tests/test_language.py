"""The package keeps to the plain part of Python that it is written in."""

import ast
import os
import unittest

PACKAGE = os.path.join(os.path.dirname(os.path.dirname(os.path.abspath(__file__))), "claimsieve")
BUILTINS = (
    "len range enumerate zip min max sum abs sorted reversed int str bool bytes list tuple dict set frozenset "
    "isinstance ord repr any all divmod pow iter next Exception ValueError TypeError KeyError IndexError LookupError "
    "ZeroDivisionError ArithmeticError OverflowError RuntimeError NotImplementedError AttributeError StopIteration"
).split()
LIBRARY = {"heapq", "math", "itertools", "collections"}
ALLOWED_TOP = (ast.Import, ast.ImportFrom, ast.FunctionDef, ast.ClassDef, ast.Assign, ast.Expr)


def sources():
    for name in sorted(os.listdir(PACKAGE)):
        if name != "__pycache__":
            with open(os.path.join(PACKAGE, name), encoding="utf-8") as file:
                yield name, file.read()


class LanguageTest(unittest.TestCase):
    def test_files(self):
        for name, text in sources():
            with self.subTest(name):
                self.assertRegex(name, r"\A[a-z0-9_]+\.py\Z")
                self.assertRegex(text, r"\A[ -~\n]*\Z")
                rows = text.split("\n")
                self.assertLessEqual(len(rows) - 1, 399)
                self.assertLessEqual(max(len(row) for row in rows), 120)

    def test_functions_have_at_most_40_lines(self):
        for name, text in sources():
            for node in ast.walk(ast.parse(text)):
                if isinstance(node, ast.FunctionDef):
                    with self.subTest((name, node.name)):
                        self.assertLessEqual(node.end_lineno - node.lineno + 1, 40)

    def test_no_percent_sign_in_a_string(self):
        for name, text in sources():
            for node in ast.walk(ast.parse(text)):
                if isinstance(node, ast.Constant) and isinstance(node.value, str):
                    self.assertNotIn("%", node.value, name)

    def test_imports_are_of_the_package_or_the_few_of_the_library(self):
        for name, text in sources():
            for node in ast.walk(ast.parse(text)):
                self.assertNotIsInstance(node, ast.Import, name)
                if isinstance(node, ast.ImportFrom):
                    self.assertEqual(node.level, 0, name)
                    head = node.module.split(".")[0]
                    self.assertTrue(head == "claimsieve" or head in LIBRARY, (name, node.module))

    def test_modules_hold_definitions_alone(self):
        for name, text in sources():
            for node in ast.parse(text).body:
                self.assertIsInstance(node, ALLOWED_TOP, name)

    def test_only_some_builtins(self):
        known = dir(__builtins__) if not isinstance(__builtins__, dict) else list(__builtins__)
        for name, text in sources():
            for node in ast.walk(ast.parse(text)):
                if isinstance(node, ast.Name) and node.id in known:
                    self.assertIn(node.id, BUILTINS, name)

    def test_no_float_and_no_global(self):
        for name, text in sources():
            for node in ast.walk(ast.parse(text)):
                self.assertNotIsInstance(node, (ast.Global, ast.Div, ast.AsyncFunctionDef), name)
                if isinstance(node, ast.Constant):
                    self.assertNotIsInstance(node.value, (float, complex), name)


if __name__ == "__main__":
    unittest.main()
