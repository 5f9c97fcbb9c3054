"""Tries, the first that faults, and why something lacks."""

import copy
import itertools
import unittest

from claimsieve.clauses import clauses
from claimsieve.errors import BadCount, BadNumbers, BadProgram, BadStart, NoLack
from claimsieve.runs import run
from claimsieve.searching import TRIES, broken, why
from claimsieve.sieve import sieved
from tests import oracle
from tests.generated import made_case
from tests.samples import COUNTDOWN, EVEN, let, lets_around, program_of
from tests.tries import ANSWERS, LISTS, NUMBERS, all_tries, faults_at

N = (("n", "number"),)
L = (("l", "list"),)
LN = (("l", "list"), ("n", "number"))
N0, N1 = ("of", 0), ("of", 1)
LEN0, EACH0 = ("len", 0), ("each", 0)
NAMES = "abcd"
FALSE = ((), (), -1)
FAULT = ("claim", *FALSE, ("tell", "zero"))
# Nothing is handed in of which these are both true.
NEVER = [(N0, (), -1), ((), N0, -1)]


def same(measure, n, tree, other):
    """The tree if a measure is n, else the other."""
    return ("if", measure, (), n, ("if", (), measure, -n, tree, other), other)


def told(n):
    return let("answer", ("num", n), ("tell", "answer"))


def is_worth(worth, kind):
    """A function that tells 1 of what is handed in, if it is this, else 0."""
    if kind == "number":
        return (("p", kind),), "number", same(("of", "p"), worth, told(1), told(0))
    tree = told(1)
    for k, item in reversed(list(enumerate(worth))):
        tree = let(f"i{NAMES[k]}", ("num", k), f"x{NAMES[k]}", ("at", "p", f"i{NAMES[k]}"),
                   same(("of", f"x{NAMES[k]}"), item, tree, told(0)))
    return (("p", kind),), "number", same(("len", "p"), len(worth), tree, told(0))


def are_answers(answers):
    """A function that tells 1 if these are the answers, of any three."""
    a, b, c = [*answers, 0, 0, 0][:3]
    tree = same(("of", "a"), a, same(("of", "b"), b, same(("of", "c"), c, told(1), told(0)), told(0)), told(0))
    return (), "number", let("a", ("ask",), "b", ("ask",), "c", ("ask",), tree)


def faults_only_at(params, handed, answers):
    """A program that faults at a place of its own if just this is handed in and answered; and the place."""
    functions = [is_worth(worth, kind) for worth, (_, kind) in zip(handed, params)] + [are_answers(answers)]
    deeds = []
    for k, (name, _) in enumerate(params):
        deeds.extend([f"s{NAMES[k]}", ("call", k + 1, (name,))])
    deeds.extend(["zero", ("num", 0), "last", ("call", len(params) + 1, ())])
    tree = FAULT
    for name in ["last"] + [f"s{NAMES[k]}" for k in range(len(params))]:
        tree = ("if", ("of", name), (), 0, ("tell", "zero"), tree)
    # An if's tree has a number ahead of its other one.
    return ((params, "number", let(*deeds, tree)), *functions), 3 * len(params) + 4


class TriesTest(unittest.TestCase):
    def params(self, *kinds):
        return tuple((NAMES[k], kind) for k, kind in enumerate(kinds))

    def is_try(self, kinds, number, handed, answers, start=()):
        """Of this number, as it is the first of which a program faults that faults of nothing else."""
        program, place = faults_only_at(self.params(*kinds), handed, answers)
        self.assertEqual(run(program, handed, answers)[0], ("fault", "claim", 0, place))
        start = list(start)
        self.assertIsNone(broken(program, start, 0, place, tries=number))
        if number < 2000:
            self.assertEqual(broken(program, start, 0, place, tries=number + 1), (list(handed), list(answers)))

    def test_no_params(self):
        for number, answers in enumerate(([], [1], [-1], [1, 1], [1, -1], [2, 1, 0])):
            self.is_try((), number, [], answers)

    def test_a_number(self):
        number = 0
        for worth in (0, 1, -1, 2, -2):
            for answers in ([], [1], [-1], [1, 1], [1, -1], [2, 1, 0]):
                self.is_try(("number",), number, [worth], answers)
                number += 1

    def test_a_list(self):
        number = 0
        for worth in ((), (0,), (1,), (-1,), (0, 0), (0, 1), (1, 0)):
            for answers in ([], [1], [-1], [1, 1], [1, -1], [2, 1, 0]):
                self.is_try(("list",), number, [worth], answers)
                number += 1

    def test_what_is_handed_in_is_no_other_try(self):
        for kind, worths in (("number", (3, -3, 5)), ("list", ((2,), (1, 1), (0, -1), (0, 0, 0)))):
            for worth in worths:
                program, place = faults_only_at(self.params(kind), [worth], [])
                self.assertIsNone(broken(program, [], 0, place, tries=2000))

    def test_answers_that_are_no_try(self):
        for answers in ([0, 1], [2], [1, 2], [-1, -1], [2, 1, 1], [1, 1, 1], [-2]):
            program, place = faults_only_at(self.params("number"), [0], answers)
            self.assertIsNone(broken(program, [], 0, place, tries=2000))

    def test_two_params_the_last_changing_first(self):
        choices = {"number": NUMBERS, "list": LISTS}
        for kinds in itertools.product(("number", "list"), repeat=2):
            rows = list(itertools.product(*[choices[kind] for kind in kinds]))
            self.assertEqual(rows[1][0], rows[0][0])
            for k in range(0, len(rows), 5):
                self.is_try(kinds, 6 * k + k % 6, list(rows[k]), ANSWERS[k % 6])

    def test_three_params(self):
        self.is_try(("number", "list", "number"), 0, [0, (), 0], [])
        self.is_try(("number", "list", "number"), 6 + 1, [0, (), 1], [1])
        self.is_try(("number", "list", "number"), 6 * 5 + 2, [0, (0,), 0], [-1])
        self.is_try(("number", "list", "number"), 6 * 35 + 5, [1, (), 0], [2, 1, 0])
        self.is_try(("number", "list", "number"), 6 * (4 * 35 + 6 * 5 + 4) + 5, [-2, (1, 0), -2], [2, 1, 0])
        self.is_try(("list", "list", "list"), 6 * (49 + 7 * 2 + 3), [(0,), (1,), (-1,)], [])

    def test_four_params(self):
        self.is_try(("number", "number", "number", "number"), 6 * (125 + 2 * 25 + 3 * 5 + 4) + 3, [1, -1, 2, -2], [1, 1])
        self.is_try(("number", "list", "list", "number"), 6 * (7 * 5 * 2 + 5 * 4 + 2), [0, (1,), (0, 0), -1], [])
        self.is_try(("list", "list", "list", "list"), 6 * (5 * 49 + 6 * 7 + 6) + 4, [(), (0, 1), (1, 0), (1, 0)], [1, -1])

    def test_no_more_than_2000(self):
        """Of four lists there are more tries than that."""
        kinds = ("list", "list", "list", "list")
        rows = list(itertools.islice(itertools.product(LISTS, repeat=4), 340))
        self.is_try(kinds, 1999, list(rows[1999 // 6]), ANSWERS[1999 % 6])
        self.is_try(kinds, 2000, list(rows[2000 // 6]), ANSWERS[2000 % 6])

    def test_only_those_of_which_start_is_true(self):
        self.is_try(("number",), 0, [1], [], [((), N0, -1)])
        self.is_try(("number",), 6 + 3, [2], [1, 1], [((), N0, -1)])
        self.is_try(("number",), 0, [-2], [], [(N0, (), -2)])
        # Of an empty list's items all is true.
        start = [(EACH0, (), 0), ((), EACH0, 0)]
        self.is_try(("list",), 0, [()], [], start)
        self.is_try(("list",), 6, [(0,)], [], start)
        self.is_try(("list",), 12, [(0, 0)], [], start)
        # Of a list of several all of them are to be so.
        for items in ((0, 1), (1, 0)):
            program, place = faults_only_at(self.params("list"), [items], [])
            self.assertIsNone(broken(program, start, 0, place, tries=2000))
            for claim in ((EACH0, (), 0), ((), EACH0, -1)):
                self.assertIsNone(broken(program, [claim], 0, place, tries=2000))
        start = [((), LEN0, -2), (EACH0, (), 1), ((), EACH0, 0)]
        self.is_try(("list",), 6, [(0, 1)], [], start)
        self.is_try(("list",), 12 + 5, [(1, 0)], [2, 1, 0], start)
        self.is_try(("list", "number"), 0, [(0, 0), 2], [], [(LEN0, N1, 0), ((), LEN0, -2)])

    def test_start_of_items_of_two(self):
        """The last param's items are more than the first one's."""
        start = [(EACH0, ("each", 1), -1), ((), LEN0, -1), ((), ("len", 1), -1)]
        rows = [(a, b) for a in LISTS for b in LISTS if a and b and max(a) < min(b)]
        self.assertEqual(rows[0], ((0,), (1,)))
        for k, (a, b) in enumerate(rows):
            self.is_try(("list", "list"), 6 * k + 1, [a, b], [1], start)

    def test_nothing_of_which_start_is_true(self):
        program = program_of(N, "number", ("claim", *FALSE, ("tell", "n")))
        self.assertIsNone(broken(program, NEVER, 0, 0, tries=2000))
        self.assertEqual(broken(program, NEVER[:1], 0, 0), ([-1], []))


class CountTest(unittest.TestCase):
    PROGRAM = program_of(N, "number", ("claim", *FALSE, ("tell", "n")))

    def test_none(self):
        self.assertIsNone(broken(self.PROGRAM, [], 0, 0, tries=0))
        self.assertEqual(broken(self.PROGRAM, [], 0, 0, tries=1), ([0], []))

    def test_left_out_it_is_200(self):
        params = (("a", "number"), ("b", "list"))
        rows = list(itertools.product(NUMBERS, LISTS))
        for number in (199, 200):
            program, place = faults_only_at(params, list(rows[number // 6]), ANSWERS[number % 6])
            expected = (list(rows[number // 6]), ANSWERS[number % 6]) if number < 200 else None
            self.assertEqual(broken(program, [], 0, place), expected)
            self.assertEqual(broken(program, [], 0, place, tries=TRIES), expected)
            self.assertIsNotNone(broken(program, [], 0, place, tries=201))

    def test_bounds(self):
        for tries in (0, 1, 2000):
            broken(self.PROGRAM, [], 0, 0, tries=tries)
            why(self.PROGRAM, [], 0, 0, tries=tries)
        for tries in (-1, 2001, 10 ** 9, True, False, None, "", "1", (), [], (1,)):
            with self.subTest(tries):
                for ask in (broken, why):
                    with self.assertRaises(BadCount) as caught:
                        ask(self.PROGRAM, [], 0, 0, tries=tries)
                    self.assertIs(type(caught.exception), BadCount)

    def test_starts_that_are_left_out_are_no_tries(self):
        self.assertEqual(broken(self.PROGRAM, [((), N0, -2)], 0, 0, tries=1), ([2], []))


class BrokenTest(unittest.TestCase):
    # It may fault at the places 0, 2, 6 and 8 alone: where it comes to the tails, the list has two items.
    TREE = let("x", ("head", "l"), "i", ("num", 1), "y", ("at", "l", "i"), "t", ("tail", "l"), "u", ("tail", "t"),
               "j", ("sum", "y", 1), "z", ("at", "l", "j"), "k", ("sum", "z", 0),
               ("claim", ("of", "x"), ("of", "k"), 0, ("if", *FALSE, ("claim", *FALSE, ("tell", "x")), ("tell", "x"))))

    def test_each_place(self):
        program = program_of(L, "number", self.TREE)
        expected = {0: ([()], []), 2: ([(0,)], []), 6: ([(0, 1)], []), 8: ([(1, 0)], [])}
        for place in range(-1, 14):
            with self.subTest(place):
                self.assertEqual(broken(program, [], 0, place), expected.get(place))

    def test_each_place_of_each_function(self):
        called = (L, "number", self.TREE)
        tree = ("if", ("len", "l"), (), 1, let("x", ("call", 1, ("l",)), ("tell", "x")),
                let("x", ("call", 2, ("l",)), ("tell", "x")))
        program = ((L, "number", tree), called, called)
        expected = {(1, 0): ([()], []), (1, 2): ([(0,)], []), (2, 6): ([(0, 1)], []), (2, 8): ([(1, 0)], [])}
        for function in range(-1, 5):
            for place in range(-1, 14):
                told = broken(program, [], function, place)
                self.assertEqual(told, expected.get((function, place)), (function, place))

    def test_no_such_function_and_no_such_place(self):
        program = program_of(L, "number", self.TREE)
        for other in (-1, -2, 13, 60, 99, 10 ** 30, -10 ** 30):
            self.assertIsNone(broken(program, [], 0, other))
            self.assertIsNone(broken(program, [], other, 0))
            self.assertIsNone(broken(program, [], other, other, tries=2000))

    def test_truths_and_other_kinds_are_no_functions_and_no_places(self):
        called = (L, "number", let("x", ("num", 0), "y", ("head", "l"), ("tell", "y")))
        program = ((L, "number", let("x", ("head", "l"), "y", ("call", 1, ("l",)), ("tell", "y"))), called)
        first = [((), LEN0, 0)]
        self.assertEqual(broken(program, first, 0, 0), ([()], []))
        for odd in (True, False, None, "", "0", (), (0,), [], [0]):
            with self.subTest(odd):
                self.assertIsNone(broken(program, first, odd, 0))
                self.assertIsNone(broken(program, first, 0, odd))
                self.assertIsNone(broken(program, first, odd, odd))
                for where in ((odd, 0), (0, odd), (odd, odd)):
                    with self.assertRaises(NoLack):
                        why(program, first, *where)

    def test_faults_by_what_is_answered(self):
        tree = let("a", ("ask",), "b", ("ask",), ("claim", ("of", "b"), (), -1, ("tell", "a")))
        self.assertEqual(broken(program_of((), "number", tree), [], 0, 2), ([], []))
        tree = let("a", ("ask",), "b", ("ask",), ("claim", ("of", "b"), (), 0, ("tell", "a")))
        self.assertEqual(broken(program_of((), "number", tree), [], 0, 2), ([], [1, 1]))
        tree = let("a", ("ask",), "b", ("ask",), ("claim", ("of", "a"), ("of", "b"), 1, ("tell", "a")))
        self.assertEqual(broken(program_of((), "number", tree), [], 0, 2), ([], [1, -1]))
        self.assertIsNone(broken(program_of((), "number", tree), [], 0, 2, tries=4))

    def counting(self, most):
        """Function 1 counts up to most, and claims what isn't so there."""
        more = let("m", ("sum", "n", 1), "x", ("call", 1, ("m",)), ("tell", "x"))
        up = (N, "number", ("if", (), ("of", "n"), -most, ("claim", *FALSE, ("tell", "n")), more))
        return ((N, "number", let("x", ("call", 1, ("n",)), ("tell", "x"))), up)

    def test_a_hundred_calls(self):
        """Begun with n it faults at its call number most less n, and two."""
        start = [((), N0, 0), (N0, (), 0)]
        for most, expected in ((97, ([0], [])), (98, ([0], [])), (99, None)):
            self.assertEqual(broken(self.counting(most), start, 1, 1, tries=2000), expected)
        self.assertEqual(broken(self.counting(99), [], 1, 1), ([1], []))

    def test_a_run_that_goes_on_for_ever(self):
        program = ((N, "number", let("x", ("call", 1, ("n",)), ("claim", *FALSE, ("tell", "x")))),
                   (N, "number", let("x", ("call", 1, ("n",)), ("claim", *FALSE, ("tell", "x")))))
        for where in itertools.product(range(3), range(4)):
            self.assertIsNone(broken(program, [], *where, tries=2000))

    def test_known_functions_never_fault(self):
        for program in (COUNTDOWN, EVEN):
            for function, place in itertools.product(range(3), range(8)):
                self.assertIsNone(broken(program, [], function, place))

    def test_of_sixty_trees(self):
        tree = lets_around(10, ("claim", *FALSE, ("tell", "n")))
        for _ in range(3):
            tree = ("if", *FALSE, lets_around(14, ("tell", "n")), tree)
        program = program_of(N, "number", tree)
        for place, expected in ((0, None), (57, None), (58, ([0], [])), (59, None), (60, None)):
            self.assertEqual(broken(program, [], 0, place), expected)


class WhyTest(unittest.TestCase):
    AT = program_of(LN, "number", let("x", ("at", "l", "n"), ("tell", "x")))

    def shows_world(self, program, start, where, told, numbers=(-1, 0, 1)):
        """The clause is the first there that lacks, and the world keeps its hypotheses, but not its goal."""
        word, number, world = told
        self.assertEqual(word, "world")
        rows = clauses(program)
        clause = rows[number]
        standing = oracle.standing_of(sieved(program, start, numbers=numbers)[0])
        self.assertEqual(clause[:2], where)
        self.assertEqual(clause[4][0], "most")
        self.assertTrue(oracle.is_world(world, clause))
        self.assertTrue(oracle.keeps_all(world, clause, standing))
        self.assertFalse(oracle.keeps(world, clause[4], standing))

    def test_a_run(self):
        self.assertEqual(why(self.AT, [], 0, 0), ("run", [(), 0], []))
        self.assertEqual(why(self.AT, [((), LEN0, -1)], 0, 0), ("run", [(0,), 1], []))
        self.assertEqual(why(self.AT, [((), LEN0, -1), (N1, LEN0, -1)], 0, 0), ("run", [(0,), -1], []))
        self.assertEqual(why(self.AT, [((), LEN0, -2), ((), N1, 0)], 0, 0), ("run", [(0, 0), 2], []))

    def test_the_run_that_broken_tells(self):
        for tries in (0, 1, 2, 7, 200, 2000):
            for start in ([], [((), LEN0, -1)], [((), N1, 0), ((), LEN0, -2)]):
                told = why(self.AT, start, 0, 0, tries=tries)
                fault = broken(self.AT, start, 0, 0, tries=tries)
                if fault is None:
                    self.shows_world(self.AT, start, (0, 0), told)
                else:
                    self.assertEqual(told, ("run", *fault))

    def test_a_world_where_no_try_faults(self):
        start = [((), N1, 0), ((), LEN0, -1), (N1, LEN0, 0), ((), N1, -3)]
        self.assertIsNone(broken(self.AT, start, 0, 0, tries=2000))
        told = why(self.AT, start, 0, 0, tries=2000)
        self.shows_world(self.AT, start, (0, 0), told)
        self.assertEqual(told[1], 1)

    def test_the_first_clause_there_that_lacks(self):
        for start, number in (([], 0), ([(N1, LEN0, -1)], 0), ([((), N1, 0)], 1), ([((), N1, 5)], 0)):
            told = why(self.AT, start, 0, 0, tries=0)
            self.shows_world(self.AT, start, (0, 0), told)
            self.assertEqual(told[1], number)

    def test_the_number_is_that_of_all_clauses(self):
        called = (L, "number", let("x", ("head", "l"), "t", ("tail", "l"), "y", ("head", "t"), ("tell", "y")))
        program = ((L, "number", let("x", ("call", 1, ("l",)), ("tell", "x"))), called)
        self.assertEqual([clause[4][0] for clause in clauses(program)],
                         ["ahead", "behind", "most", "most", "most", "behind"])
        for place, number in ((0, 2), (2, 4)):
            told = why(program, [], 1, place, tries=0)
            self.assertEqual(told[1], number)
            self.shows_world(program, [], (1, place), told)

    def test_nothing_lacks(self):
        start = [((), N1, 0), (N1, LEN0, -1)]
        for tries in (0, 200, 2000):
            for where in ((0, 0), (0, 1), (0, 2), (1, 0), (-1, 0), (0, -1), (10 ** 20, 0), (0, 10 ** 20)):
                with self.subTest(where), self.assertRaises(NoLack) as caught:
                    why(self.AT, start, *where, tries=tries)
                self.assertIs(type(caught.exception), NoLack)

    def test_nothing_lacks_elsewhere(self):
        for where in ((0, 1), (0, 2), (1, 0), (-1, 0), (0, -1)):
            with self.assertRaises(NoLack):
                why(self.AT, [], *where)

    def test_where_start_is_true_of_nothing_nothing_lacks(self):
        program = program_of(N, "number", ("claim", *FALSE, ("tell", "n")))
        with self.assertRaises(NoLack):
            why(program, NEVER, 0, 0)

    def test_something_lacks_but_no_try_faults(self):
        """Only more than a hundred calls would come to it, or no run at all."""
        more = let("m", ("sum", "n", 1), "x", ("call", 1, ("m",)), ("tell", "x"))
        up = (N, "number", ("if", (), ("of", "n"), -99, ("claim", *FALSE, ("tell", "n")), more))
        program = ((N, "number", let("x", ("call", 1, ("n",)), ("tell", "x"))), up)
        start = [(N0, (), 0)]
        self.assertIsNone(broken(program, start, 1, 1, tries=2000))
        self.shows_world(program, start, (1, 1), why(program, start, 1, 1, tries=2000))

    def test_something_lacks_by_a_small_lattice_alone(self):
        tree = let("m", ("len", "l"), "x", ("call", 1, ("l",)), ("claim", ("of", "x"), ("of", "m"), 0, ("tell", "x")))
        twice = (L, "number", ("if", ("len", "l"), (), 0, told(0), let(
            "t", ("tail", "l"), "x", ("call", 1, ("t",)), "y", ("sum", "x", 2), "z", ("sum", "y", -2), ("tell", "z"))))
        program = ((L, "number", tree), twice)
        self.assertIsNone(broken(program, [], 0, 2, tries=2000))
        with self.assertRaises(NoLack):
            why(program, [], 0, 2)
        told_by = why(program, [], 0, 2, numbers=(-1,))
        self.shows_world(program, [], (0, 2), told_by, numbers=(-1,))

    def test_by_what_stays_of_the_lattice(self):
        least = (L, "number", let("x", ("len", "l"), "y", ("sum", "x", -1), ("tell", "y")))
        program = ((L, "number", let("i", ("call", 1, ("l",)), "x", ("at", "l", "i"), ("tell", "x"))), least)
        start = [((), LEN0, -1)]
        with self.assertRaises(NoLack):
            why(program, start, 0, 1)
        for numbers in ((-1,), (1,), (0,)):
            lacks = sieved(program, start, numbers=numbers)[1]
            self.assertEqual(lacks, [(0, 1)])
            self.shows_world(program, start, (0, 1), why(program, start, 0, 1, numbers=numbers), numbers)

    def test_numbers_and_tries_in_either_order(self):
        start = [((), LEN0, -1)]
        for numbers, tries in (((0,), 0), ((-1, 0, 1), 200), ((2,), 2000)):
            first = why(self.AT, start, 0, 0, numbers=numbers, tries=tries)
            self.assertEqual(why(self.AT, start, 0, 0, tries=tries, numbers=numbers), first)
        self.assertEqual(why(self.AT, start, 0, 0), why(self.AT, start, 0, 0, tries=200, numbers=(-1, 0, 1)))


class RefusalsTest(unittest.TestCase):
    PROGRAM = program_of(N, "number", ("claim", *FALSE, ("tell", "n")))

    def refused(self, refusal, ask, *args, **more):
        with self.assertRaises(refusal) as caught:
            ask(*args, **more)
        self.assertIs(type(caught.exception), refusal)
        return caught.exception

    def test_broken(self):
        wrong = self.PROGRAM + (None,)
        self.refused(BadProgram, broken, None, None, None, None, tries=None)
        error = self.refused(BadProgram, broken, wrong, None, 0, 0, tries=-1)
        self.assertEqual((error.function, error.place), (1, -1))
        self.refused(BadProgram, broken, wrong, [], 0, 0, tries=-1)
        self.refused(BadStart, broken, self.PROGRAM, None, None, None, tries=None)
        self.refused(BadStart, broken, self.PROGRAM, [None], 0, 0, tries=2001)
        self.refused(BadStart, broken, self.PROGRAM, [None], 7, 0)
        self.refused(BadCount, broken, self.PROGRAM, [], None, None, tries=True)
        self.refused(BadCount, broken, self.PROGRAM, [], 7, 0, tries=2001)

    def test_why(self):
        for first in (0, 1, 2, 3, 4):
            rows = [("program", BadProgram), ("start", BadStart), ("numbers", BadNumbers), ("tries", BadCount),
                    ("place", NoLack)]
            for behind in itertools.product((False, True), repeat=4 - first):
                wrong = [False] * first + [True] + list(behind)
                asked = {name: is_wrong for (name, _), is_wrong in zip(rows, wrong)}
                with self.subTest(asked):
                    self.refused(rows[first][1], self.why_asked, **asked)

    def why_asked(self, program, start, numbers, tries, place):
        return why(self.PROGRAM[:0] if program else self.PROGRAM, [()] if start else [], 0, 1 if place else 0,
                   tries=-1 if tries else 5, numbers=() if numbers else (0,))

    def test_none_is_refused(self):
        self.assertEqual(self.why_asked(False, False, False, False, False), ("run", [0], []))


class KeptTest(unittest.TestCase):
    """What is handed in stays as it is, and what is told may be changed."""

    def test_what_is_told_may_be_changed_and_is_told_again(self):
        program = program_of(N, "number", let("a", ("ask",), ("claim", ("of", "a"), (), 0, ("tell", "n"))))
        start = [((), N0, 0)]
        for _ in range(3):
            told_by = broken(program, start, 0, 1)
            self.assertEqual(told_by, ([0], [1]))
            self.assertEqual([type(told_by)] + [type(part) for part in told_by], [tuple, list, list])
            told_by[0].append(5)
            told_by[1][0] = 7
            told_by = why(program, start, 0, 1)
            self.assertEqual(told_by, ("run", [0], [1]))
            told_by[1].clear()
            told_by[2].append(None)

    def test_what_is_handed_in_stays(self):
        program, start = copy.deepcopy(WhyTest.AT), [(N1, (), 5), ((), LEN0, 0)]
        for ask in (broken, why):
            ask(program, start, 0, 0)
            ask(program, start, 0, 0, tries=0)
            self.assertEqual((program, start), (WhyTest.AT, [(N1, (), 5), ((), LEN0, 0)]))


class SmallProgramsTest(unittest.TestCase):
    """Programs that are made by number, held against tries that are told by hand."""

    MANY = 250

    def test_broken_and_why(self):
        counts = {"run": 0, "world": 0, "none": 0}
        for number in range(self.MANY):
            program, start, numbers = made_case(number)
            lacks = sieved(program, start, numbers=numbers)[1]
            tries = (60, 200, 1)[number % 3]
            faults = faults_at(program, start, tries)
            for function, place in {row[:2] for row in clauses(program)}:
                where = (function, place)
                self.assertEqual(broken(program, start, *where, tries=tries), faults.get(where), (number, where))
                if where not in lacks:
                    self.assertNotIn(where, faults)
                    with self.assertRaises(NoLack):
                        why(program, start, *where, numbers=numbers, tries=tries)
                    counts["none"] += 1
                    continue
                told_by = why(program, start, *where, numbers=numbers, tries=tries)
                counts[told_by[0]] += 1
                if where in faults:
                    self.assertEqual(told_by, ("run", *faults[where]))
                else:
                    WhyTest.shows_world(self, program, start, where, told_by, numbers)
                    self.assertTrue(self.is_first(program, start, numbers, where, told_by[1]))
        self.assertTrue(all(many > 20 for many in counts.values()), counts)

    def is_first(self, program, start, numbers, where, number):
        """Whether the goals of clauses there ahead of this one are kept in few worlds."""
        standing = oracle.standing_of(sieved(program, start, numbers=numbers)[0])
        for clause in clauses(program)[:number]:
            if clause[:2] == where and oracle.many_worlds(clause) <= 1500:
                for world in oracle.few_worlds(clause):
                    if oracle.keeps_all(world, clause, standing) and not oracle.keeps(world, clause[4], standing):
                        return False
        return True

    def test_all_tries_are_as_many(self):
        self.assertEqual(len(all_tries(COUNTDOWN, [])), 30)
        self.assertEqual(len(all_tries(EVEN, [])), 42)


if __name__ == "__main__":
    unittest.main()
