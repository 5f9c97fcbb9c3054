"""The clauses of each kind of tree and of each deed."""

import copy
import inspect
import unittest

from claimsieve.clauses import clauses
from claimsieve.errors import BadProgram
from tests.samples import COUNTDOWN, EVEN, deed_program, let, program_of

N = (("n", "number"),)
L = (("l", "list"),)
NL = (("n", "number"), ("l", "list"))
AHEAD_N = ("ahead", 0, ("n",))
AHEAD_L = ("ahead", 0, ("l",))
AHEAD = ("ahead", 0, ("n", "l"))


class ClausesTest(unittest.TestCase):
    maxDiff = None

    def told(self, params, kind, tree, *expected):
        """Of a program of one function, without the number of the function."""
        self.assertEqual(clauses(program_of(params, kind, tree)), [(0, *row) for row in expected])

    def let_told(self, name, kind, deed, *hypotheses):
        """Of a let that wants nothing, in a function of a number n and a list l."""
        tree = ("let", name, deed, ("tell", name))
        names = (*NL, (name, kind))
        goal = ("behind", 0, ("n", "l"), name)
        self.told(NL, kind, tree, (1, names, (AHEAD, *hypotheses), goal))

    def test_tell(self):
        self.told(N, "number", ("tell", "n"), (0, N, (AHEAD_N,), ("behind", 0, ("n",), "n")))
        self.told(NL, "list", ("tell", "l"), (0, NL, (AHEAD,), ("behind", 0, ("n", "l"), "l")))

    def test_no_params(self):
        self.told((), "number", ("let", "x", ("ask",), ("tell", "x")),
                  (1, (("x", "number"),), (("ahead", 0, ()),), ("behind", 0, (), "x")))

    def test_if(self):
        tree = ("if", ("of", "n"), ("len", "l"), 3, ("tell", "n"), ("tell", "n"))
        goal = ("behind", 0, ("n", "l"), "n")
        self.told(NL, "number", tree,
                  (1, NL, (AHEAD, ("most", ("of", "n"), ("len", "l"), 3)), goal),
                  (2, NL, (AHEAD, ("most", ("len", "l"), ("of", "n"), -4)), goal))

    def test_if_by_numbers_below_0(self):
        for n, other in ((-99, 98), (-1, 0), (0, -1), (99, -100)):
            tree = ("if", (), ("of", "n"), n, ("tell", "n"), ("tell", "n"))
            goal = ("behind", 0, ("n",), "n")
            self.told(N, "number", tree,
                      (1, N, (AHEAD_N, ("most", (), ("of", "n"), n)), goal),
                      (2, N, (AHEAD_N, ("most", ("of", "n"), (), other)), goal))

    def test_ifs_within_one_another(self):
        tree = ("if", (), ("of", "n"), 0, ("if", ("of", "n"), (), 5, ("tell", "n"), ("tell", "n")), ("tell", "n"))
        first = ("most", (), ("of", "n"), 0)
        goal = ("behind", 0, ("n",), "n")
        self.told(N, "number", tree,
                  (2, N, (AHEAD_N, first, ("most", ("of", "n"), (), 5)), goal),
                  (3, N, (AHEAD_N, first, ("most", (), ("of", "n"), -6)), goal),
                  (4, N, (AHEAD_N, ("most", ("of", "n"), (), -1)), goal))

    def test_claim(self):
        first, second = ("most", ("of", "n"), (), 7), ("most", ("len", "l"), ("of", "n"), -1)
        tree = ("claim", ("of", "n"), (), 7, ("claim", ("len", "l"), ("of", "n"), -1, ("tell", "n")))
        self.told(NL, "number", tree,
                  (0, NL, (AHEAD,), first),
                  (1, NL, (AHEAD, first), second),
                  (2, NL, (AHEAD, first, second), ("behind", 0, ("n", "l"), "n")))

    def test_num(self):
        for n in (-99, -1, 0, 1, 99):
            self.let_told("x", "number", ("num", n), ("most", ("of", "x"), (), n), ("most", (), ("of", "x"), -n))

    def test_sum(self):
        for n in (-99, 0, 5):
            self.let_told("x", "number", ("sum", "n", n),
                          ("most", ("of", "x"), ("of", "n"), n), ("most", ("of", "n"), ("of", "x"), -n))

    def test_len(self):
        self.let_told("x", "number", ("len", "l"),
                      ("most", ("of", "x"), ("len", "l"), 0), ("most", ("len", "l"), ("of", "x"), 0))

    def test_ask(self):
        self.let_told("x", "number", ("ask",))

    def test_nil(self):
        self.let_told("x", "list", ("nil",), ("none", "x"))

    def test_put(self):
        self.let_told("x", "list", ("put", "n", "l"), ("made", "x", "n", "l"))

    def test_head(self):
        most = ("most", (), ("len", "l"), -1)
        self.told(L, "number", let("x", ("head", "l"), ("tell", "x")),
                  (0, L, (AHEAD_L,), most),
                  (1, (*L, ("x", "number")), (AHEAD_L, most, ("one", "x", "l")), ("behind", 0, ("l",), "x")))

    def test_tail(self):
        most = ("most", (), ("len", "l"), -1)
        self.told(L, "list", let("x", ("tail", "l"), ("tell", "x")),
                  (0, L, (AHEAD_L,), most),
                  (1, (*L, ("x", "list")), (AHEAD_L, most, ("part", "x", "l")), ("behind", 0, ("l",), "x")))

    def test_at_wants_two_the_first_known_for_the_second(self):
        low, high = ("most", (), ("of", "n"), 0), ("most", ("of", "n"), ("len", "l"), -1)
        self.told(NL, "number", let("x", ("at", "l", "n"), ("tell", "x")),
                  (0, NL, (AHEAD,), low),
                  (0, NL, (AHEAD, low), high),
                  (1, (*NL, ("x", "number")), (AHEAD, low, high, ("one", "x", "l")), ("behind", 0, ("n", "l"), "x")))

    def test_each_wants_again_what_is_known(self):
        most = ("most", (), ("len", "l"), -1)
        tree = let("x", ("head", "l"), "y", ("tail", "l"), "z", ("tail", "y"), ("tell", "x"))
        x, y, z = ("x", "number"), ("y", "list"), ("z", "list")
        first = (AHEAD_L, most, ("one", "x", "l"))
        second = (*first, most, ("part", "y", "l"))
        third = (*second, ("most", (), ("len", "y"), -1), ("part", "z", "y"))
        self.told(L, "number", tree,
                  (0, L, (AHEAD_L,), most),
                  (1, (*L, x), first, most),
                  (2, (*L, x, y), second, ("most", (), ("len", "y"), -1)),
                  (3, (*L, x, y, z), third, ("behind", 0, ("l",), "x")))

    def test_call(self):
        tree = let("x", ("call", 1, ("l", "n", "n")), "y", ("call", 1, ("x", "n", "n")), ("tell", "y"))
        called = ((("a", "list"), ("b", "number"), ("c", "number")), "list", ("tell", "a"))
        x, y = ("x", "list"), ("y", "list")
        first = ("behind", 1, ("l", "n", "n"), "x")
        self.assertEqual(clauses(((NL, "list", tree), called)), [
            (0, 0, NL, (AHEAD,), ("ahead", 1, ("l", "n", "n"))),
            (0, 1, (*NL, x), (AHEAD, first), ("ahead", 1, ("x", "n", "n"))),
            (0, 2, (*NL, x, y), (AHEAD, first, ("behind", 1, ("x", "n", "n"), "y")), ("behind", 0, ("n", "l"), "y")),
            (1, 0, called[0], (("ahead", 1, ("a", "b", "c")),), ("behind", 1, ("a", "b", "c"), "a")),
        ])

    def test_call_without_params(self):
        tree = let("x", ("call", 1, ()), ("tell", "x"))
        program = ((N, "number", tree), ((), "number", let("y", ("ask",), ("tell", "y"))))
        self.assertEqual(clauses(program)[:2], [
            (0, 0, N, (AHEAD_N,), ("ahead", 1, ())),
            (0, 1, (*N, ("x", "number")), (AHEAD_N, ("behind", 1, (), "x")), ("behind", 0, ("n",), "x"))])

    def test_samples_function_by_function(self):
        self.assertEqual([row[:2] + (row[4][0],) for row in clauses(COUNTDOWN)], [
            (0, 0, "ahead"), (0, 1, "behind"), (1, 1, "behind"), (1, 3, "ahead"), (1, 4, "behind")])
        self.assertEqual([row[:2] + (row[4][0],) for row in clauses(EVEN)], [
            (0, 0, "ahead"), (0, 1, "behind"),
            (1, 2, "behind"), (1, 3, "most"), (1, 4, "ahead"), (1, 5, "behind"),
            (2, 2, "behind"), (2, 3, "most"), (2, 4, "ahead"), (2, 5, "behind")])

    def test_names_of_one_tree_do_not_stand_in_the_other(self):
        tree = ("if", (), ("of", "n"), 0, let("x", ("ask",), ("tell", "x")), let("x", ("num", 1), ("tell", "x")))
        names = (*N, ("x", "number"))
        goal = ("behind", 0, ("n",), "x")
        self.told(N, "number", tree,
                  (2, names, (AHEAD_N, ("most", (), ("of", "n"), 0)), goal),
                  (4, names, (AHEAD_N, ("most", ("of", "n"), (), -1),
                              ("most", ("of", "x"), (), 1), ("most", (), ("of", "x"), -1)), goal))


class PutTest(unittest.TestCase):
    """Lists that were put on the way, and names that stand for what was put."""

    maxDiff = None
    NAMES = (*NL, ("m", "list"))
    KNOWN = (AHEAD, ("made", "m", "n", "l"))
    MOST = ("most", (), ("len", "m"), -1)

    def behind_put(self, kind, tree, *expected):
        """Of a tree behind a put of n and l, m; the expected without the function and what stands and is known there."""
        program = program_of(NL, kind, ("let", "m", ("put", "n", "l"), tree))
        self.assertEqual(clauses(program), [
            (0, place, self.NAMES + names, self.KNOWN + known, goal) for place, names, known, goal in expected])

    def test_head_stands_for_the_number(self):
        self.behind_put("number", let("x", ("head", "m"), ("tell", "x")),
                        (1, (), (), self.MOST),
                        (2, (), (self.MOST,), ("behind", 0, ("n", "l"), "n")))

    def test_tail_stands_for_the_rest(self):
        self.behind_put("list", let("x", ("tail", "m"), ("tell", "x")),
                        (1, (), (), self.MOST),
                        (2, (), (self.MOST,), ("behind", 0, ("n", "l"), "l")))

    def test_at_tells_nothing_of_the_item(self):
        low, high = ("most", (), ("of", "n"), 0), ("most", ("of", "n"), ("len", "m"), -1)
        self.behind_put("number", let("x", ("at", "m", "n"), ("tell", "x")),
                        (1, (), (), low),
                        (1, (), (low,), high),
                        (2, (("x", "number"),), (low, high), ("behind", 0, ("n", "l"), "x")))

    def test_what_it_stands_for_is_told_in_measures(self):
        tree = let("x", ("head", "m"), "y", ("tail", "m"),
                   ("if", ("of", "x"), ("len", "y"), 2, ("claim", ("len", "y"), ("of", "x"), 0, ("tell", "x")),
                    ("tell", "x")))
        known = (self.MOST, self.MOST)
        inner = (*known, ("most", ("of", "n"), ("len", "l"), 2))
        goal = ("most", ("len", "l"), ("of", "n"), 0)
        last = ("behind", 0, ("n", "l"), "n")
        self.behind_put("number", tree,
                        (1, (), (), self.MOST),
                        (2, (), (self.MOST,), self.MOST),
                        (4, (), inner, goal),
                        (5, (), (*inner, goal), last),
                        (6, (), (*known, ("most", ("len", "l"), ("of", "n"), -3)), last))

    def test_what_it_stands_for_is_told_in_deeds(self):
        known = (self.MOST, self.MOST)
        n, l = ("most", (), ("of", "n"), 0), ("most", ("of", "n"), ("len", "l"), -1)
        head = ("most", (), ("len", "l"), -1)
        z, y = ("z", "number"), ("z", "list")
        for deed, wants, name, told in (
                (("sum", "x", 4), [], z, (("most", ("of", "z"), ("of", "n"), 4), ("most", ("of", "n"), ("of", "z"), -4))),
                (("len", "y"), [], z, (("most", ("of", "z"), ("len", "l"), 0), ("most", ("len", "l"), ("of", "z"), 0))),
                (("put", "x", "y"), [], y, (("made", "z", "n", "l"),)),
                (("head", "y"), [head], z, (("one", "z", "l"),)),
                (("tail", "y"), [head], y, (("part", "z", "l"),)),
                (("at", "y", "x"), [n, l], z, (("one", "z", "l"),)),
                (("call", 1, ("y", "x")), [("ahead", 1, ("l", "n"))], z, (("behind", 1, ("l", "n"), "z"),))):
            with self.subTest(deed):
                tree = let("m", ("put", "n", "l"), "x", ("head", "m"), "y", ("tail", "m"), "z", deed, ("tell", "x"))
                called = ((("a", "list"), ("b", "number")), "number", ("tell", "b"))
                rows = [row for row in clauses(((NL, "number", tree), called)) if row[0] == 0 and row[1] >= 3]
                behind = tuple(want for want in wants if want[0] == "most")
                expected = [(0, 3, self.NAMES, self.KNOWN + known + behind[:k], want) for k, want in enumerate(wants)]
                expected.append((0, 4, (*self.NAMES, name), self.KNOWN + known + behind + told,
                                 ("behind", 0, ("n", "l"), "n")))
                self.assertEqual(rows, expected)

    def test_put_upon_put(self):
        tree = let("k", ("put", "n", "m"), "x", ("tail", "k"), "y", ("tail", "x"), "z", ("tail", "y"), ("tell", "z"))
        k = ("k", "list")
        made = ("made", "k", "n", "m")
        most = ("most", (), ("len", "k"), -1)
        rest = ("most", (), ("len", "l"), -1)
        self.behind_put("list", tree,
                        (2, (k,), (made,), most),
                        (3, (k,), (made, most), self.MOST),
                        (4, (k,), (made, most, self.MOST), rest),
                        (5, (k, ("z", "list")), (made, most, self.MOST, rest, ("part", "z", "l")),
                         ("behind", 0, ("n", "l"), "z")))

    def test_heads_of_put_upon_put(self):
        tree = let("a", ("sum", "n", 1), "k", ("put", "a", "m"), "x", ("tail", "k"), "y", ("head", "x"),
                   "z", ("head", "k"), "w", ("put", "z", "x"), ("tell", "y"))
        row = clauses(program_of(NL, "number", let("m", ("put", "n", "l"), tree)))[-1]
        self.assertEqual(row[2], (*self.NAMES, ("a", "number"), ("k", "list"), ("w", "list")))
        self.assertEqual(row[3][-1], ("made", "w", "a", "m"))
        self.assertEqual(row[4], ("behind", 0, ("n", "l"), "n"))

    def test_put_of_what_was_put_elsewhere(self):
        """A list that a call tells, or that was handed in, wasn't put on the way."""
        tree = let("k", ("call", 1, ("m",)), "x", ("head", "k"), ("tell", "x"))
        program = ((NL, "number", let("m", ("put", "n", "l"), tree)), (L, "list", let("p", ("nil",), ("tell", "p"))))
        rows = [row for row in clauses(program) if row[0] == 0]
        self.assertEqual(rows[-1][2], (*self.NAMES, ("k", "list"), ("x", "number")))
        self.assertEqual(rows[-1][3][-1], ("one", "x", "k"))
        self.assertEqual(rows[-1][4], ("behind", 0, ("n", "l"), "x"))

    def test_put_in_one_tree_alone(self):
        tree = ("if", (), ("of", "n"), 0,
                let("m", ("put", "n", "l"), "x", ("head", "m"), ("tell", "x")),
                let("m", ("tail", "l"), "x", ("head", "m"), ("tell", "x")))
        rows = clauses(program_of(NL, "number", tree))
        self.assertEqual([row[4] for row in rows], [
            self.MOST, ("behind", 0, ("n", "l"), "n"),
            ("most", (), ("len", "l"), -1), self.MOST, ("behind", 0, ("n", "l"), "x")])

    def test_nil_is_not_put(self):
        tree = let("e", ("nil",), "x", ("head", "e"), "y", ("tail", "e"), ("tell", "x"))
        most = ("most", (), ("len", "e"), -1)
        e, x, y = ("e", "list"), ("x", "number"), ("y", "list")
        self.assertEqual(clauses(program_of((), "number", tree)), [
            (0, 1, (e,), (("ahead", 0, ()), ("none", "e")), most),
            (0, 2, (e, x), (("ahead", 0, ()), ("none", "e"), most, ("one", "x", "e")), most),
            (0, 3, (e, x, y), (("ahead", 0, ()), ("none", "e"), most, ("one", "x", "e"), most, ("part", "y", "e")),
             ("behind", 0, (), "x"))])

    def test_put_upon_nil(self):
        tree = let("e", ("nil",), "m", ("put", "n", "e"), "x", ("tail", "m"), "y", ("head", "x"), ("tell", "y"))
        rows = clauses(program_of(N, "number", tree))
        self.assertEqual(rows[-1][2:], (
            (*N, ("e", "list"), ("m", "list"), ("y", "number")),
            (AHEAD_N, ("none", "e"), ("made", "m", "n", "e"), self.MOST, ("most", (), ("len", "e"), -1),
             ("one", "y", "e")), ("behind", 0, ("n",), "y")))

    def test_names_that_are_written_like_words(self):
        """What a name stands for is told where the name stands, not where a word is written the same."""
        tree = let("m", ("put", "n", "l"), "of", ("head", "m"), "len", ("tail", "m"), "sum", ("head", "m"),
                   ("claim", ("of", "of"), ("len", "len"), 1, let("x", ("sum", "sum", 1), ("tell", "x"))))
        rows = clauses(program_of(NL, "number", tree))
        self.assertEqual(rows[-2][4], ("most", ("of", "n"), ("len", "l"), 1))
        self.assertEqual(rows[-1][3][-2:], (("most", ("of", "x"), ("of", "n"), 1), ("most", ("of", "n"), ("of", "x"), -1)))


class InterfaceTest(unittest.TestCase):
    def test_names_and_arguments(self):
        self.assertEqual(clauses.__module__, "claimsieve.clauses")
        self.assertEqual(str(inspect.signature(clauses)), "(program)")
        self.assertIs(type(clauses(EVEN)), list)

    def test_what_is_told_may_be_changed_and_is_told_again(self):
        program = copy.deepcopy(EVEN)
        told = clauses(program)
        expected = copy.deepcopy(told)
        told.clear()
        self.assertEqual(clauses(program), expected)
        self.assertEqual(program, EVEN)

    def test_refuses_what_run_refuses(self):
        for program, function, place in (
                (None, 0, -1), ((), 0, -1), ([], 0, -1), ((EVEN[0], None), 1, -1), (EVEN[:1], 0, 0),
                (EVEN[:2] + ((L, "number", ("claim", (), (), True, ("tell", "l"))),), 2, 0),
                (deed_program(N, "list", ("sum", "n", 1)), 0, 1)):
            with self.subTest(program), self.assertRaises(BadProgram) as caught:
                clauses(program)
            self.assertEqual((caught.exception.function, caught.exception.place), (function, place))


if __name__ == "__main__":
    unittest.main()
