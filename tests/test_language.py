"""The package keeps to the plain part of Python that it is written in."""

import ast
import os
import unittest

PACKAGE = os.path.join(os.path.dirname(os.path.dirname(os.path.abspath(__file__))), "claimsieve")
BUILTINS = (
    "len range enumerate zip min max sum abs sorted reversed int str bool bytes list tuple dict set frozenset "
    "isinstance ord repr any all divmod pow iter next Exception ValueError TypeError KeyError IndexError LookupError "
    "ZeroDivisionError ArithmeticError OverflowError RuntimeError NotImplementedError AttributeError StopIteration"
).split()
LIBRARY = {"heapq", "math", "itertools", "collections"}
ALLOWED_TOP = (ast.Import, ast.ImportFrom, ast.FunctionDef, ast.ClassDef, ast.Assign, ast.Expr)


def sources():
    for name in sorted(os.listdir(PACKAGE)):
        if name != "__pycache__":
            with open(os.path.join(PACKAGE, name), encoding="utf-8") as file:
                yield name, file.read()


class LanguageTest(unittest.TestCase):
    def test_files(self):
        for name, text in sources():
            with self.subTest(name):
                self.assertRegex(name, r"\A[a-z0-9_]+\.py\Z")
                self.assertRegex(text, r"\A[ -~\n]*\Z")
                rows = text.split("\n")
                self.assertLessEqual(len(rows) - 1, 399)
                self.assertLessEqual(max(len(row) for row in rows), 120)

    def test_functions_have_at_most_40_lines(self):
        for name, text in sources():
            for node in ast.walk(ast.parse(text)):
                if isinstance(node, ast.FunctionDef):
                    with self.subTest((name, node.name)):
                        self.assertLessEqual(node.end_lineno - node.lineno + 1, 40)

    def test_no_percent_sign_in_a_string(self):
        for name, text in sources():
            for node in ast.walk(ast.parse(text)):
                if isinstance(node, ast.Constant) and isinstance(node.value, str):
                    self.assertNotIn("%", node.value, name)

    def test_imports_are_of_the_package_or_the_few_of_the_library(self):
        for name, text in sources():
            for node in ast.walk(ast.parse(text)):
                self.assertNotIsInstance(node, ast.Import, name)
                if isinstance(node, ast.ImportFrom):
                    self.assertEqual(node.level, 0, name)
                    head = node.module.split(".")[0]
                    self.assertTrue(head == "claimsieve" or head in LIBRARY, (name, node.module))

    def test_modules_hold_definitions_alone(self):
        for name, text in sources():
            for node in ast.parse(text).body:
                self.assertIsInstance(node, ALLOWED_TOP, name)

    def test_only_some_builtins(self):
        known = dir(__builtins__) if not isinstance(__builtins__, dict) else list(__builtins__)
        for name, text in sources():
            for node in ast.walk(ast.parse(text)):
                if isinstance(node, ast.Name) and node.id in known:
                    self.assertIn(node.id, BUILTINS, name)

    def test_names_are_bound_once(self):
        """No parameter and no local name is that of an import or a class of its file."""
        for name, text in sources():
            tree = ast.parse(text)
            taken = {alias.name for node in tree.body if isinstance(node, ast.ImportFrom) for alias in node.names}
            taken |= {node.name for node in tree.body if isinstance(node, ast.ClassDef)}
            for node in ast.walk(tree):
                if isinstance(node, ast.arg):
                    self.assertNotIn(node.arg, taken, name)
                if isinstance(node, ast.Name) and isinstance(node.ctx, ast.Store):
                    self.assertNotIn(node.id, taken, name)

    def test_no_name_is_a_method_and_an_attribute(self):
        methods, attributes = set(), set()
        for _, text in sources():
            for node in ast.walk(ast.parse(text)):
                if isinstance(node, ast.ClassDef):
                    methods |= {row.name for row in node.body if isinstance(row, ast.FunctionDef)}
                if isinstance(node, ast.Attribute) and isinstance(node.ctx, ast.Store):
                    attributes.add(node.attr)
        self.assertEqual(methods & attributes, set())

    def test_is_stands_beside_none_alone(self):
        for name, text in sources():
            for node in ast.walk(ast.parse(text)):
                if isinstance(node, ast.Compare) and any(isinstance(sign, (ast.Is, ast.IsNot)) for sign in node.ops):
                    side = node.comparators[0]
                    self.assertTrue(isinstance(side, ast.Constant) and side.value is None, (name, node.lineno))

    def test_no_star_in_a_set_and_no_generator(self):
        for name, text in sources():
            for node in ast.walk(ast.parse(text)):
                self.assertNotIsInstance(node, (ast.GeneratorExp, ast.Yield, ast.YieldFrom), name)
                if isinstance(node, ast.Set):
                    self.assertFalse(any(isinstance(part, ast.Starred) for part in node.elts), name)

    def test_sets_are_sorted_or_counted_on_the_spot(self):
        for name, text in sources():
            tree = ast.parse(text)
            seen = set()
            for node in ast.walk(tree):
                if isinstance(node, ast.Call) and isinstance(node.func, ast.Name) and node.func.id in ("sorted", "len"):
                    seen |= {id(part) for part in node.args}
            for node in ast.walk(tree):
                made = isinstance(node, ast.Call) and isinstance(node.func, ast.Name) and node.func.id == "set"
                if made or isinstance(node, (ast.SetComp, ast.Set)):
                    self.assertIn(id(node), seen, (name, node.lineno))

    def test_no_two_files_import_from_each_other(self):
        heads = {}
        for name, text in sources():
            heads["claimsieve." + name[:-3]] = {
                node.module for node in ast.parse(text).body if isinstance(node, ast.ImportFrom)}
        while heads:
            free = [name for name, modules in heads.items() if not modules & set(heads)]
            self.assertTrue(free, heads)
            for name in free:
                del heads[name]

    def test_no_float_and_no_global(self):
        for name, text in sources():
            for node in ast.walk(ast.parse(text)):
                self.assertNotIsInstance(node, (ast.Global, ast.Div, ast.AsyncFunctionDef), name)
                if isinstance(node, ast.Constant):
                    self.assertNotIsInstance(node.value, (float, complex), name)


if __name__ == "__main__":
    unittest.main()
