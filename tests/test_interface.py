"""All names of the interface: each in its file, with its arguments, and as many kinds of refusal as are told."""

import ast
import importlib
import inspect
import os
import unittest

import claimsieve
from claimsieve.desk import Desk

NUMBERS = (-1, 0, 1)
SIGNATURES = {
    ("runs", "run"): "(program, args, answers, *, most=100)",
    ("claims", "candidates"): "(program, function, *, numbers=(-1, 0, 1))",
    ("clauses", "clauses"): "(program)",
    ("sieve", "sieved"): "(program, start, *, numbers=(-1, 0, 1))",
    ("papers", "paper"): "(program, start, *, numbers=(-1, 0, 1))",
    ("checking", "checked"): "(program, start, paper, *, numbers=(-1, 0, 1))",
    ("searching", "broken"): "(program, start, function, place, *, tries=200)",
    ("searching", "why"): "(program, start, function, place, *, numbers=(-1, 0, 1), tries=200)",
    ("weakest", "weakest"): "(program, wishes, *, numbers=(-1, 0, 1))",
    ("desk", "Desk"): "(program, start, *, numbers=(-1, 0, 1))",
    ("notes", "written"): "(program)",
    ("notes", "read"): "(text)",
}
METHODS = {
    "edit": "(self, number, function)",
    "begin": "(self, start)",
    "trial": "(self, number, function)",
    "back": "(self)",
    "program": "(self)",
    "start": "(self)",
    "claims": "(self)",
    "lacks": "(self)",
}
VALUES = {("runs", "MOST_CALLS"): 100, ("claims", "NUMBERS"): NUMBERS, ("searching", "TRIES"): 200}
REFUSALS = ("ClaimError", "BadProgram", "BadArgs", "BadCount", "BadNumbers", "BadStart", "BadPaper", "NoLack", "BadText")


def module(name):
    return importlib.import_module("claimsieve." + name)


def tree_of_file(name):
    with open(os.path.join(os.path.dirname(claimsieve.__file__), name + ".py"), encoding="utf-8") as file:
        return ast.parse(file.read())


class InterfaceTest(unittest.TestCase):
    def test_signatures(self):
        for (file, name), signature in SIGNATURES.items():
            with self.subTest(name):
                self.assertEqual(str(inspect.signature(getattr(module(file), name))), signature)

    def test_values(self):
        for (file, name), worth in VALUES.items():
            self.assertEqual(getattr(module(file), name), worth)

    def test_each_is_defined_in_its_file(self):
        wanted = [*SIGNATURES, *[("errors", name) for name in REFUSALS]]
        for file, name in wanted:
            with self.subTest(name):
                defined = [node.name for node in tree_of_file(file).body
                           if isinstance(node, (ast.FunctionDef, ast.ClassDef))]
                self.assertEqual(defined.count(name), 1)
                self.assertEqual(getattr(module(file), name).__module__, "claimsieve." + file)

    def test_methods_stand_in_the_class_itself(self):
        for name, signature in METHODS.items():
            with self.subTest(name):
                self.assertIn(name, vars(Desk))
                self.assertEqual(str(inspect.signature(getattr(Desk, name))), signature)
        self.assertEqual(Desk.__bases__, (object,))

    def test_refusals(self):
        errors = module("errors")
        self.assertEqual(errors.ClaimError.__bases__, (ValueError,))
        for name in REFUSALS[1:]:
            self.assertEqual(getattr(errors, name).__bases__, (errors.ClaimError,))
        self.assertEqual(vars(errors.BadText(3)), {"row": 3})
        self.assertEqual(vars(errors.BadProgram(2, 7)), {"function": 2, "place": 7})


if __name__ == "__main__":
    unittest.main()
