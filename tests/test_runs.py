"""What comes of runs, and their calls."""

import copy
import inspect
import sys
import unittest

from claimsieve import runs
from claimsieve.errors import BadArgs, BadCount, BadProgram
from claimsieve.runs import MOST_CALLS, run
from tests.samples import COUNTDOWN, EVEN, deed_program, lets_around, program_of

N = (("n", "number"),)
L = (("l", "list"),)
LN = (("l", "list"), ("n", "number"))
FAR = 10 ** 6
TELL_N = ("tell", "n")
TWO_ENDS = ("let", "a", ("num", 1), ("tell", "a")), ("let", "b", ("num", 2), ("tell", "b"))


class DeedsTest(unittest.TestCase):
    def tells(self, params, kind, deed, args, worth, answers=()):
        told = run(deed_program(params, kind, deed), args, list(answers))
        self.assertEqual(told, (("told", worth), [(0, tuple(args), worth)]))

    def faults(self, params, kind, deed, args, word):
        """At the let, behind two trees of an if, and in a function but 0."""
        told = run(deed_program(params, kind, deed), args, [])
        self.assertEqual(told, (("fault", word, 0, 0), [(0, tuple(args), None)]))
        inner = ("let", "out", deed, ("tell", "out"))
        tree = ("if", (), (), -1, ("claim", (), (), 0, inner), ("claim", (), (), 0, inner))
        names = tuple(name for name, _ in params)
        caller = (params, kind, ("let", "out", ("call", 1, names), ("tell", "out")))
        told = run((caller, (params, kind, tree)), args, [])
        self.assertEqual(told, (("fault", word, 1, 5), [(0, tuple(args), None), (1, tuple(args), None)]))

    def test_num(self):
        for n in (-99, 0, 99):
            self.tells((), "number", ("num", n), [], n)

    def test_sum(self):
        self.tells(N, "number", ("sum", "n", 5), [-7], -2)
        self.tells(N, "number", ("sum", "n", -99), [4], -95)
        self.tells(N, "number", ("sum", "n", 99), [FAR], FAR + 99)

    def test_len(self):
        for items in ((), (5,), (5, 5, 6), tuple(range(40))):
            self.tells(L, "number", ("len", "l"), [items], len(items))

    def test_names_may_be_words(self):
        for word in ("ask", "call", "nil", "len", "tell", "number", "list"):
            self.tells(((word, "list"),), "number", ("len", word), [(1, 2)], 2, [7])
            self.tells(((word, "number"),), "number", ("sum", word, 1), [5], 6, [7])

    def test_nil(self):
        self.tells((), "list", ("nil",), [], ())

    def test_put(self):
        self.tells(LN, "list", ("put", "n", "l"), [(), 7], (7,))
        self.tells(LN, "list", ("put", "n", "l"), [(1, 2), 7], (7, 1, 2))
        self.tells(LN, "list", ("put", "n", "l"), [(1,) * 40, 7], (7,) + (1,) * 40)

    def test_head_and_tail(self):
        for items in ((4,), (4, 5), (4, 5, 6)):
            self.tells(L, "number", ("head", "l"), [items], 4)
            self.tells(L, "list", ("tail", "l"), [items], items[1:])

    def test_head_and_tail_of_the_empty_list(self):
        self.faults(L, "number", ("head", "l"), [()], "empty")
        self.faults(L, "list", ("tail", "l"), [()], "empty")

    def test_at(self):
        for at in range(3):
            self.tells(LN, "number", ("at", "l", "n"), [(4, 5, 6), at], 4 + at)

    def test_at_beyond(self):
        for items, at in (((4, 5, 6), 3), ((4, 5, 6), -1), ((4, 5, 6), -3), ((), 0), ((), -1), ((4,), 1), ((4,), FAR)):
            self.faults(LN, "number", ("at", "l", "n"), [items, at], "beyond")

    def test_ask(self):
        self.tells((), "number", ("ask",), [], 9, [9, 8])
        self.tells((), "number", ("ask",), [], 0)

    def test_call(self):
        pair = (("a", "number"), ("b", "list"))
        tree = ("let", "out", ("call", 1, ("n", "l")), ("tell", "out"))
        program = ((LN, "list", tree), (pair, "list", ("let", "out", ("put", "a", "b"), ("tell", "out"))))
        told = run(program, [(1, 2), 3], [])
        self.assertEqual(told, (("told", (3, 1, 2)), [(0, ((1, 2), 3), (3, 1, 2)), (1, (3, (1, 2)), (3, 1, 2))]))


class TreesTest(unittest.TestCase):
    def outcome(self, params, kind, tree, args):
        return run(program_of(params, kind, tree), args, [])[0]

    def test_tell(self):
        self.assertEqual(self.outcome(N, "number", TELL_N, [3]), ("told", 3))
        self.assertEqual(self.outcome(L, "list", ("tell", "l"), [(3,)]), ("told", (3,)))

    def test_if(self):
        tree = ("if", ("of", "n"), (), 3, *TWO_ENDS)
        for n, worth in ((2, 1), (3, 1), (4, 2), (-FAR, 1), (FAR, 2)):
            self.assertEqual(self.outcome(N, "number", tree, [n]), ("told", worth))

    def test_if_takes_the_second_from_the_first(self):
        tree = ("if", (), ("of", "n"), -3, *TWO_ENDS)
        for n, worth in ((2, 2), (3, 1), (4, 1)):
            self.assertEqual(self.outcome(N, "number", tree, [n]), ("told", worth))

    def test_measures(self):
        """How far the first is over the second, by all of what they can be."""
        worths = {(): 0, ("of", "n"): 5, ("len", "l"): 3}
        for first in worths:
            for second in worths:
                over = worths[first] - worths[second]
                for n in (over - 1, over, over + 1):
                    tree = ("if", first, second, n, *TWO_ENDS)
                    worth = 1 if over <= n else 2
                    self.assertEqual(self.outcome(LN, "number", tree, [(7, 7, 7), 5]), ("told", worth))

    def test_claim(self):
        tree = ("claim", ("of", "n"), ("len", "l"), 1, TELL_N)
        self.assertEqual(self.outcome(LN, "number", tree, [(7, 7), 3]), ("told", 3))
        self.assertEqual(self.outcome(LN, "number", tree, [(7, 7), 4]), ("fault", "claim", 0, 0))

    def test_places_are_numbered_each_ahead_of_those_in_it_the_tree_ahead_of_the_other(self):
        ends = {0: [(), 0], 2: [(), 0], 4: [(), 0], 6: [(1,), 0], 8: [(), 1]}
        for wrong, args in ends.items():
            self.assertEqual(self.outcome(LN, "number", forked(wrong), args), ("fault", "claim", 0, wrong))
        for wrong, args in ((2, [(), 1]), (4, [(1,), 0]), (6, [(), 0]), (8, [(1,), 0]), (None, [(), 0])):
            self.assertEqual(self.outcome(LN, "number", forked(wrong), args), ("told", args[1]))


def forked(wrong):
    """Claims at the places 0, 2, 4, 6 and 8, ifs at 1 and 3; the claim at `wrong` isn't so."""
    def claim(place, tree):
        return ("claim", (), (), -1 if place == wrong else 0, tree)

    inner = ("if", ("len", "l"), (), 0, claim(4, TELL_N), claim(6, TELL_N))
    return claim(0, ("if", ("of", "n"), (), 0, claim(2, inner), claim(8, TELL_N)))


class CallsTest(unittest.TestCase):
    def test_a_function_that_calls_itself(self):
        end, calls = run(COUNTDOWN, [3], [])
        self.assertEqual(end, ("told", 0))
        self.assertEqual(calls, [(0, (3,), 0), (1, (3,), 0), (1, (2,), 0), (1, (1,), 0), (1, (0,), 0)])

    def test_functions_that_call_one_another(self):
        self.assertEqual(run(EVEN, [(5, 6)], []), (("told", 1), [
            (0, ((5, 6),), 1), (1, ((5, 6),), 1), (2, ((6,),), 1), (1, ((),), 1)]))
        self.assertEqual(run(EVEN, [(5,)], []), (("told", 0), [
            (0, ((5,),), 0), (1, ((5,),), 0), (2, ((),), 0)]))

    def test_calls_stand_in_the_order_in_which_they_were_begun(self):
        """Each of three calls, one behind another, tells its own; the names of a call are its own."""
        twice = ("let", "a", ("call", 2, ("n",)), ("let", "b", ("call", 2, ("a",)), ("tell", "b")))
        outer = ("let", "a", ("call", 1, ("n",)), ("let", "b", ("call", 2, ("n",)), ("tell", "a")))
        more = ("let", "a", ("sum", "n", 1), ("tell", "a"))
        program = ((N, "number", outer), (N, "number", twice), (N, "number", more))
        self.assertEqual(run(program, [5], []), (("told", 7), [
            (0, (5,), 7), (1, (5,), 7), (2, (5,), 6), (2, (6,), 7), (2, (5,), 6)]))

    def test_a_fault_leaves_those_that_have_not_told(self):
        fails = ("claim", ("of", "n"), (), 5, TELL_N)
        outer = ("let", "a", ("call", 1, ("n",)), ("let", "b", ("sum", "n", 1),
                 ("let", "c", ("call", 1, ("b",)), ("tell", "c"))))
        program = ((N, "number", outer), (N, "number", fails))
        self.assertEqual(run(program, [5], []), (("fault", "claim", 1, 0), [(0, (5,), None), (1, (5,), 5), (1, (6,), None)]))

    def test_worths_go_beyond_what_can_be_handed_in(self):
        tree = ("let", "a", ("sum", "n", 99), ("let", "b", ("call", 1, ("a",)), ("tell", "b")))
        inner = ("let", "a", ("sum", "n", 99), ("tell", "a"))
        self.assertEqual(run(((N, "number", tree), (N, "number", inner)), [FAR], [])[0], ("told", FAR + 198))


def shallow(program, args):
    """A run of 300 calls at most, with room for but a hundred of Python's own within one another."""
    limit = sys.getrecursionlimit()
    sys.setrecursionlimit(len(inspect.stack()) + 100)
    try:
        return run(program, args, [], most=300)
    finally:
        sys.setrecursionlimit(limit)


class LongTest(unittest.TestCase):
    def counted(self, begun, high):
        """The calls of a countdown from `high`, of which none has told."""
        return ([(0, (high,), None)] + [(1, (high - k,), None) for k in range(begun - 1)])

    def test_most_1(self):
        self.assertEqual(run(COUNTDOWN, [3], [], most=1), (("long",), [(0, (3,), None)]))
        self.assertEqual(run(program_of(N, "number", TELL_N), [3], [], most=1), (("told", 3), [(0, (3,), 3)]))

    def test_a_small_most(self):
        self.assertEqual(run(COUNTDOWN, [3], [], most=4), (("long",), self.counted(4, 3)))
        self.assertEqual(run(COUNTDOWN, [3], [], most=5)[0], ("told", 0))

    def test_what_told_by_then(self):
        more = ("let", "a", ("sum", "n", 1), ("tell", "a"))
        outer = ("let", "a", ("call", 1, ("n",)), ("let", "b", ("call", 1, ("a",)),
                 ("let", "c", ("call", 1, ("b",)), ("tell", "c"))))
        program = ((N, "number", outer), (N, "number", more))
        self.assertEqual(run(program, [5], [], most=3), (("long",), [(0, (5,), None), (1, (5,), 6), (1, (6,), 7)]))
        self.assertEqual(run(program, [5], [], most=4)[0], ("told", 8))

    def test_left_out_it_is_100(self):
        self.assertEqual(MOST_CALLS, 100)
        self.assertEqual(run(COUNTDOWN, [98], [])[0], ("told", 0))
        self.assertEqual(run(COUNTDOWN, [99], []), (("long",), self.counted(100, 99)))

    def test_most_300(self):
        self.assertEqual(run(COUNTDOWN, [298], [], most=300)[0], ("told", 0))
        self.assertEqual(run(COUNTDOWN, [299], [], most=300), (("long",), self.counted(300, 299)))

    def test_300_calls_within_one_another_each_from_the_innermost_of_20_trees(self):
        call = ("let", "out", ("call", 1, ("rest",)), ("tell", "out"))
        deep = ("let", "rest", ("sum", "n", -1), lets_around(16, call))
        tree = ("if", ("of", "n"), (), 0, TELL_N, deep)
        outer = ("let", "rest", ("sum", "n", 0), lets_around(17, call))
        program = ((N, "number", outer), (N, "number", tree))
        end, calls = shallow(program, [298])
        self.assertEqual(end, ("told", 0))
        self.assertEqual(calls, [(0, (298,), 0)] + [(1, (298 - k,), 0) for k in range(299)])
        end, calls = shallow(program, [299])
        self.assertEqual(end, ("long",))
        self.assertEqual(calls, [(0, (299,), None)] + [(1, (299 - k,), None) for k in range(299)])

    def test_a_fault_ahead_of_a_call_too_many(self):
        fails = ("claim", (), (), -1, ("let", "a", ("call", 1, ("n",)), ("tell", "a")))
        outer = ("let", "a", ("call", 1, ("n",)), ("tell", "a"))
        self.assertEqual(run(((N, "number", outer), (N, "number", fails)), [1], [], most=2)[0], ("fault", "claim", 1, 0))


class AnswersTest(unittest.TestCase):
    PROGRAM = (
        ((), "list",
         ("let", "a", ("ask",), ("let", "rest", ("call", 1, ()), ("let", "b", ("ask",),
          ("let", "some", ("put", "b", "rest"), ("let", "all", ("put", "a", "some"), ("tell", "all"))))))),
        ((), "list",
         ("let", "c", ("ask",), ("let", "none", ("nil",), ("let", "one", ("put", "c", "none"), ("tell", "one"))))),
    )

    def test_answers_in_turn_and_0_where_none_is_left(self):
        """Told is the first, then the third, then the second, which the called function asked for."""
        for answers, told in (([], (0, 0, 0)), ([7], (7, 0, 0)), ([7, 8], (7, 0, 8)), ([7, 8, 9], (7, 9, 8)),
                              ([7, 8, 9, 10], (7, 9, 8)), ([0, -FAR, FAR], (0, FAR, -FAR))):
            self.assertEqual(run(self.PROGRAM, [], answers)[0], ("told", told))

    def test_what_is_handed_in_stays(self):
        args, answers = [(1, 2), 0], [3, 4]
        program = program_of(LN, "number", ("let", "a", ("ask",), ("let", "b", ("put", "a", "l"), ("tell", "a"))))
        before = copy.deepcopy(program)
        run(program, args, answers)
        self.assertEqual((args, answers, program), ([(1, 2), 0], [3, 4], before))

    def test_what_is_told_may_be_changed_and_is_told_again(self):
        args, answers = [(1, 2)], []
        told = run(EVEN, args, answers)
        expected = copy.deepcopy(told)
        told[1].clear()
        self.assertEqual(run(EVEN, args, answers), expected)
        again = run(EVEN, args, answers)
        args.append(3)
        answers.append(4)
        self.assertEqual(again, expected)

    def test_what_is_told_is_a_tuple_and_a_list_of_tuples(self):
        told = run(COUNTDOWN, [1], [])
        self.assertEqual((type(told), type(told[0]), type(told[1])), (tuple, tuple, list))
        for call in told[1]:
            self.assertEqual((type(call), type(call[1])), (tuple, tuple))


class RefusalsTest(unittest.TestCase):
    PROGRAM = program_of(LN, "number", TELL_N)

    def refused(self, refusal, program, args, answers, **more):
        with self.assertRaises(refusal) as caught:
            run(program, args, answers, **more)
        self.assertIs(type(caught.exception), refusal)

    def test_args_are_a_list_of_as_many(self):
        for args in (None, True, 0, "", "ln", (), ((), 0), [], [()], [(), 0, 0]):
            with self.subTest(args):
                self.refused(BadArgs, self.PROGRAM, args, [])

    def test_args_are_of_the_kinds(self):
        for worth in (None, True, False, "", "1", (), (1,), [], [1]):
            with self.subTest(worth):
                self.refused(BadArgs, self.PROGRAM, [(), worth], [])
        for worth in (None, True, 0, 1, "", "1", [], [1], ((),), ("1",), (None,), (True,), (0, False), ([],)):
            with self.subTest(worth):
                self.refused(BadArgs, self.PROGRAM, [worth, 0], [])

    def test_bounds_of_args(self):
        for n in (FAR, -FAR):
            self.assertEqual(run(self.PROGRAM, [(0, n), n], [])[0], ("told", n))
        for n in (FAR + 1, -FAR - 1):
            self.refused(BadArgs, self.PROGRAM, [(), n], [])
            self.refused(BadArgs, self.PROGRAM, [(0, n), 0], [])
        self.assertEqual(run(self.PROGRAM, [(0,) * 40, 1], [])[0], ("told", 1))
        self.refused(BadArgs, self.PROGRAM, [(0,) * 41, 1], [])

    def test_answers(self):
        for answers in (None, True, 0, "", (), (1,), [None], [True], [False], ["1"], [()], [[]], [0, 0, FAR + 1],
                        [-FAR - 1]):
            with self.subTest(answers):
                self.refused(BadArgs, self.PROGRAM, [(), 0], answers)
        for answers in ([FAR, -FAR], [1] * 5000):
            self.assertEqual(run(self.PROGRAM, [(), 5], answers)[0], ("told", 5))

    def test_most(self):
        for most in (0, -1, 301, True, None, "100", (), [], (100,)):
            with self.subTest(most):
                self.refused(BadCount, self.PROGRAM, [(), 0], [], most=most)
        for most in (1, 300):
            self.assertEqual(run(self.PROGRAM, [(), 5], [], most=most)[0], ("told", 5))

    def test_what_is_handed_in_first_is_refused_first(self):
        self.refused(BadProgram, None, None, None, most=0)
        self.refused(BadArgs, self.PROGRAM, None, [], most=0)
        self.refused(BadArgs, self.PROGRAM, [(), 0], None, most=0)
        self.refused(BadCount, self.PROGRAM, [(), 0], [], most=0)

    def test_a_program_that_the_run_would_not_come_to(self):
        wrong = (N, "number", ("claim", (), (), 0, ("tell", "m")))
        with self.assertRaises(BadProgram) as caught:
            run((*self.PROGRAM, wrong), [(), 0], [])
        self.assertEqual((caught.exception.function, caught.exception.place), (1, 1))


class InterfaceTest(unittest.TestCase):
    def test_names_and_arguments(self):
        self.assertEqual(run.__module__, "claimsieve.runs")
        self.assertEqual(str(inspect.signature(run)), "(program, args, answers, *, most=100)")
        self.assertEqual(runs.MOST_CALLS, 100)


if __name__ == "__main__":
    unittest.main()
