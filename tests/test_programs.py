"""What can be a program, and which of it is refused first."""

import unittest

from claimsieve.claims import candidates
from claimsieve.errors import BadProgram
from claimsieve.runs import run
from tests.samples import COUNTDOWN, EVEN, deed_program, lets_around, letters, program_of, tree_of

ODD_KINDS = (None, True, 0, 1, "", "let", (), [], ((),), ([],))
TELL_N = ("tell", "n")
N = (("n", "number"),)
L = (("l", "list"),)
NL = (("n", "number"), ("l", "list"))


class ProgramTest(unittest.TestCase):
    def refused(self, program, function, place):
        for ask in (lambda: run(program, [], []), lambda: candidates(program, 0)):
            with self.assertRaises(BadProgram) as caught:
                ask()
            self.assertEqual((caught.exception.function, caught.exception.place), (function, place))

    def accepted(self, program):
        ahead, behind = candidates(program, 0)
        self.assertIsInstance(behind, list)

    def deed_refused(self, deed):
        """In a function with a number n and a list l, behind a tree that can be."""
        tree = ("claim", (), (), 0, ("let", "out", deed, ("tell", "out")))
        for kind in ("number", "list"):
            self.refused(program_of(NL, kind, tree), 0, 1)


class FunctionsTest(ProgramTest):
    def test_samples(self):
        for program in (COUNTDOWN, EVEN):
            self.accepted(program)

    def test_no_tuple_or_none(self):
        for program in (None, True, 0, "", "let", (), [], [program_of(N, "number", TELL_N)[0]]):
            with self.subTest(program):
                self.refused(program, 0, -1)

    def test_six_functions_and_a_seventh(self):
        function = (N, "number", TELL_N)
        self.accepted((function,) * 6)
        self.refused((function,) * 7, 6, -1)
        self.refused((function,) * 8, 6, -1)
        self.refused((function,) * 6 + (None,), 6, -1)

    def test_a_seventh_is_ahead_of_all_trees_but_behind_what_is_ahead_of_the_six(self):
        function = (N, "number", TELL_N)
        treeless = (N, "number", None)
        headless = (N, "text", TELL_N)
        self.refused((treeless,) * 7, 6, -1)
        self.refused((function,) * 5 + (headless, function), 5, -1)

    def test_function_is_a_tuple_of_three(self):
        function = (N, "number", TELL_N)
        for wrong in (*ODD_KINDS, function[:2], (*function, TELL_N), list(function)):
            with self.subTest(wrong):
                self.refused((wrong,), 0, -1)
                self.refused((function, wrong), 1, -1)

    def test_params_are_a_tuple(self):
        for params in (None, True, 0, "", "n", [], [("n", "number")], {}):
            with self.subTest(params):
                self.refused(program_of(params, "number", ("let", "x", ("ask",), ("tell", "x"))), 0, -1)

    def test_each_param_is_a_name_and_a_kind(self):
        for param in (*ODD_KINDS, ("n",), ("n", "number", "number"), ["n", "number"], ("number", "n")):
            with self.subTest(param):
                self.refused(program_of((("m", "number"), param), "number", ("tell", "m")), 0, -1)

    def test_four_params_and_a_fifth(self):
        params = tuple((name, "number") for name in "abcde")
        self.accepted(program_of((), "list", ("let", "x", ("nil",), ("tell", "x"))))
        self.accepted(program_of(params[:4], "number", ("tell", "d")))
        self.refused(program_of(params, "number", ("tell", "d")), 0, -1)

    def test_names_of_params_are_unlike(self):
        self.refused(program_of((("n", "number"), ("l", "list"), ("n", "number")), "number", TELL_N), 0, -1)
        self.refused(program_of((("n", "number"), ("n", "list")), "number", TELL_N), 0, -1)

    def test_names_are_one_to_eight_letters(self):
        for name in ("a", "z", "abcdefgh", "number", "tell"):
            with self.subTest(name):
                self.accepted(program_of(((name, "number"),), "number", ("tell", name)))
        for name in ("", "abcdefghi", "A", "aB", "a1", "a b", "a_", "-", "\u00e9", "\u00df", "a\n", "{", "`",
                     None, 1, True, (), [], ("a",), ["a"]):
            with self.subTest(name):
                self.refused(program_of(((name, "number"),), "number", ("tell", name)), 0, -1)
                self.refused(program_of((), "number", ("let", name, ("ask",), ("tell", name))), 0, 0)

    def test_kinds(self):
        for kind in ("Number", "lists", "", None, True, 0, (), [], ("number",), ["number"]):
            with self.subTest(kind):
                self.refused(program_of((("n", kind),), "number", TELL_N), 0, -1)
                self.refused(program_of(N, kind, TELL_N), 0, -1)

    def test_heads_of_all_functions_are_ahead_of_all_trees(self):
        self.refused(((N, "number", None), (N, "text", TELL_N)), 1, -1)
        self.refused(((N, "number", None), (N, "number", None), ((), "number")), 2, -1)

    def test_first_of_two_heads(self):
        function = (N, "number", TELL_N)
        self.refused((function, (N, "text", TELL_N), function, None), 1, -1)


class TreesTest(ProgramTest):
    def test_first_of_two_functions(self):
        function = (N, "number", TELL_N)
        early = (N, "number", ("tell", "m"))
        late = (N, "number", ("claim", (), (), 0, ("tell", "m")))
        self.refused((function, late, early), 1, 1)
        self.refused((function, early, late), 1, 0)

    def test_no_tree(self):
        for tree in (*ODD_KINDS, "tell", ("tell",), ("tell", "n", "n"), ["tell", "n"], ("told", "n"), ("Tell", "n"),
                     (None, "n"), (["tell"], "n"), (("tell",), "n"), (True, "n"), ("num", 1), ("of", "n")):
            with self.subTest(tree):
                self.refused(program_of(N, "number", tree), 0, 0)
                self.refused(program_of(N, "number", ("claim", (), (), 0, tree)), 0, 1)
                self.refused(program_of(N, "number", ("let", "x", ("ask",), tree)), 0, 1)
                self.refused(program_of(N, "number", ("if", (), (), 0, tree, TELL_N)), 0, 1)
                self.refused(program_of(N, "number", ("if", (), (), 0, TELL_N, tree)), 0, 2)

    def test_trees_have_their_parts(self):
        for tree in (("let", "x", ("ask",)), ("let", "x", ("ask",), TELL_N, TELL_N), ("let", "x", TELL_N),
                     ("if", (), (), 0, TELL_N), ("if", (), (), 0, TELL_N, TELL_N, TELL_N), ("if", (), (), TELL_N, TELL_N),
                     ("claim", (), (), 0), ("claim", (), (), 0, TELL_N, TELL_N), ("claim", (), 0, TELL_N)):
            with self.subTest(tree):
                self.refused(program_of(N, "number", tree), 0, 0)
                self.refused(program_of(N, "number", ("let", "x", ("ask",), tree)), 0, 1)

    def test_tell_a_name_that_stands_of_the_kind(self):
        self.accepted(program_of(NL, "number", ("tell", "n")))
        self.accepted(program_of(NL, "list", ("tell", "l")))
        self.refused(program_of(NL, "list", ("tell", "n")), 0, 0)
        self.refused(program_of(NL, "number", ("tell", "l")), 0, 0)
        for name in ("m", "", None, 1, True, (), [], ("n",), ["n"]):
            with self.subTest(name):
                self.refused(program_of(NL, "number", ("tell", name)), 0, 0)

    def test_let_a_name_that_does_not_stand_yet(self):
        self.refused(program_of(N, "number", ("let", "n", ("ask",), TELL_N)), 0, 0)
        self.refused(program_of(N, "number", ("let", "m", ("ask",), ("let", "m", ("ask",), TELL_N))), 0, 1)

    def test_let_stands_in_its_tree_alone(self):
        inner = ("let", "m", ("ask",), ("tell", "m"))
        self.accepted(program_of(N, "number", ("if", (), (), 0, inner, inner)))
        self.refused(program_of(N, "number", ("if", (), (), 0, inner, ("tell", "m"))), 0, 3)
        self.refused(program_of(N, "number", ("let", "m", ("sum", "m", 0), TELL_N)), 0, 0)

    def test_let_stands_for_the_kind_of_its_deed(self):
        self.accepted(program_of((), "list", ("let", "l", ("nil",), ("tell", "l"))))
        self.refused(program_of((), "number", ("let", "l", ("nil",), ("tell", "l"))), 0, 1)

    def test_what_is_ahead_in_number_is_refused_first(self):
        wrong = ("tell", "m")
        self.refused(program_of(N, "number", ("if", (), (), 0, ("claim", (), (), 0, wrong), wrong)), 0, 2)
        self.refused(program_of(N, "number", ("if", (), (), 0, ("claim", (), (), 0, TELL_N), wrong)), 0, 3)
        self.refused(program_of(N, "number", ("if", (), (), 100, wrong, wrong)), 0, 0)

    def test_numbers_of_if_and_claim(self):
        for n in (-99, 0, 99):
            self.accepted(program_of(N, "number", ("if", (), (), n, TELL_N, TELL_N)))
            self.accepted(program_of(N, "number", ("claim", (), (), n, TELL_N)))
        for n in (-100, 100, True, False, None, "0", (), [], "n"):
            with self.subTest(n):
                self.refused(program_of(N, "number", ("if", (), (), n, TELL_N, TELL_N)), 0, 0)
                self.refused(program_of(N, "number", ("claim", (), (), n, TELL_N)), 0, 0)

    def test_measures(self):
        for measure in ((), ("of", "n"), ("len", "l")):
            self.accepted(program_of(NL, "number", ("claim", measure, measure, 0, TELL_N)))
            self.accepted(program_of(NL, "number", ("if", measure, measure, 0, TELL_N, TELL_N)))
        for measure in (None, 0, True, "", "n", [], ["of", "n"], ("of",), ("len",), ("of", "n", "n"), ("of", "l"),
                        ("len", "n"), ("each", "l"), ("of", "m"), ("len", "m"), ("of", None), ("of", ["n"]),
                        ("of", 0), ("of", ("n",)), (["of"], "n"), ((), "n"), ("n", "of"), ((),)):
            with self.subTest(measure):
                self.refused(program_of(NL, "number", ("claim", measure, (), 0, TELL_N)), 0, 0)
                self.refused(program_of(NL, "number", ("claim", (), measure, 0, TELL_N)), 0, 0)
                self.refused(program_of(NL, "number", ("if", measure, (), 0, TELL_N, TELL_N)), 0, 0)
                self.refused(program_of(NL, "number", ("if", (), measure, 0, TELL_N, TELL_N)), 0, 0)

    def test_sixty_trees_and_one_more(self):
        self.accepted(program_of(N, "number", tree_of(60, TELL_N)))
        self.refused(program_of(N, "number", tree_of(61, TELL_N)), 0, 60)
        self.refused(program_of(N, "number", tree_of(80, TELL_N)), 0, 60)
        self.refused(program_of(N, "number", tree_of(61, ("tell", "m"))), 0, 15)

    def test_twenty_within_one_another_and_one_more(self):
        self.accepted(program_of(N, "number", lets_around(19, TELL_N)))
        self.refused(program_of(N, "number", lets_around(20, TELL_N)), 0, 20)
        self.refused(program_of(N, "number", lets_around(50, TELL_N)), 0, 20)
        self.refused(program_of(N, "number", ("if", (), (), 0, TELL_N, lets_around(19, TELL_N))), 0, 21)

    def test_the_bounds_are_those_of_each_function_by_itself(self):
        self.accepted(((N, "number", tree_of(60, TELL_N)),) * 6)
        self.refused(((N, "number", tree_of(60, TELL_N)), (N, "number", tree_of(61, TELL_N))), 1, 60)

    def test_too_deep_and_too_wrong(self):
        self.refused(program_of(N, "number", lets_around(19, ("tell", "m"))), 0, 19)
        self.refused(program_of(N, "number", lets_around(20, ("tell", "m"))), 0, 20)
        wrong = ("if", (), (), 0, ("tell", "m"), lets_around(30, TELL_N))
        self.refused(program_of(N, "number", wrong), 0, 1)

    def test_trees_far_beyond_the_bounds(self):
        tree = TELL_N
        for _ in range(20000):
            tree = ("claim", (), (), 0, tree)
        self.refused(program_of(N, "number", tree), 0, 20)


class DeedsTest(ProgramTest):
    def test_each_deed(self):
        numbers = (("num", 5), ("sum", "n", 5), ("len", "l"), ("head", "l"), ("at", "l", "n"), ("ask",))
        lists = (("nil",), ("put", "n", "l"), ("tail", "l"))
        for deeds, kind, other in ((numbers, "number", "list"), (lists, "list", "number")):
            for deed in deeds:
                with self.subTest(deed):
                    self.accepted(deed_program(NL, kind, deed))
                    self.refused(deed_program(NL, other, deed), 0, 1)

    def test_no_deed(self):
        for deed in (*ODD_KINDS, "ask", ["ask"], ("asks",), ("Ask",), (None,), (True,), (("ask",),), ("let", "x"),
                     ("of", "n"), ("tell", "n"), ("n",), ("number",)):
            with self.subTest(deed):
                self.deed_refused(deed)

    def test_deeds_have_their_parts(self):
        for deed in (("num",), ("num", 1, 1), ("sum", "n"), ("sum", 1), ("sum", "n", 1, 1), ("len",), ("len", "l", "l"),
                     ("nil", "l"), ("put", "n"), ("put", "l"), ("put", "n", "l", "l"), ("head",), ("head", "l", "l"),
                     ("tail",), ("tail", "l", "l"), ("at", "l"), ("at", "n"), ("at", "l", "n", "n"), ("ask", "n"),
                     ("call", 1), ("call", ("n",)), ("call", 1, ("n",), ())):
            with self.subTest(deed):
                self.deed_refused(deed)

    def test_numbers_of_deeds(self):
        for n in (-99, 0, 99):
            self.accepted(deed_program(NL, "number", ("num", n)))
            self.accepted(deed_program(NL, "number", ("sum", "n", n)))
        for n in (-100, 100, True, False, None, "0", "n", (), []):
            with self.subTest(n):
                self.deed_refused(("num", n))
                self.deed_refused(("sum", "n", n))

    def test_names_of_deeds_stand_for_the_kinds_that_are_wanted(self):
        for deed in (("sum", "l", 1), ("sum", 1, "n"), ("len", "n"), ("put", "l", "n"), ("put", "n", "n"),
                     ("put", "l", "l"), ("head", "n"), ("tail", "n"), ("at", "n", "l"), ("at", "n", "n"),
                     ("at", "l", "l")):
            with self.subTest(deed):
                self.deed_refused(deed)
        for name in ("m", "out", "", None, True, 0, (), [], ("n",), ["l"]):
            for deed in (("sum", name, 1), ("len", name), ("put", name, "l"), ("put", "n", name), ("head", name),
                         ("tail", name), ("at", name, "n"), ("at", "l", name)):
                with self.subTest(deed):
                    self.deed_refused(deed)


class CallsTest(ProgramTest):
    def calling(self, deed, kind="number"):
        """Function 0 and function 2 do the same deed; function 1 wants a number, a list, and tells a list."""
        tree = ("let", "out", deed, ("tell", "out"))
        return ((NL, kind, tree), (NL, "list", ("tell", "l")), (NL, kind, tree))

    def call_refused(self, deed, kind):
        self.refused(self.calling(deed, kind), 0, 0)

    def test_call_tells_the_kind_of_the_function(self):
        self.accepted(self.calling(("call", 1, ("n", "l")), "list"))
        self.refused(self.calling(("call", 1, ("n", "l")), "number"), 0, 1)

    def test_call_of_the_same_function_and_of_one_behind(self):
        self.accepted(self.calling(("call", 2, ("n", "l"))))

    def test_no_such_function(self):
        for function in (-1, 0, 3, 4, True, False, None, "1", (), [], (1,)):
            with self.subTest(function):
                self.call_refused(("call", function, ("n", "l")), "number")
                self.call_refused(("call", function, ("n", "l")), "list")

    def test_no_call_of_function_0_by_another_one(self):
        tree = ("let", "out", ("call", 0, ("n",)), ("tell", "out"))
        self.refused(((N, "number", TELL_N), (N, "number", tree)), 1, 0)

    def test_names_of_a_call(self):
        for names in ((), ("n",), ("n", "l", "l"), ("l", "n"), ("n", "n"), ("l", "l"), ("m", "l"), ("n", None),
                      ("n", ["l"]), (0, "l"), (True, "l"), ["n", "l"], "nl", None, 0, True):
            with self.subTest(names):
                self.call_refused(("call", 1, names), "list")

    def test_one_name_for_several_params(self):
        pair = (("a", "number"), ("b", "number"))
        tree = ("let", "out", ("call", 1, ("n", "n")), ("tell", "out"))
        self.accepted(((N, "number", tree), (pair, "number", ("tell", "b"))))

    def test_call_of_a_function_without_params(self):
        tree = ("let", "out", ("call", 1, ()), ("tell", "out"))
        ask = ("let", "out", ("ask",), ("tell", "out"))
        self.accepted((((), "number", tree), ((), "number", ask)))

    def test_letters_are_unlike(self):
        self.assertEqual(len({letters(number) for number in range(100)}), 100)


if __name__ == "__main__":
    unittest.main()
