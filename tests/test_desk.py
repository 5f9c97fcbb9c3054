"""Desks: what is told behind edits, begins, trials and what is taken back."""

import copy
import itertools
import unittest

from claimsieve.claims import candidates
from claimsieve.desk import Desk
from claimsieve.errors import BadCount, BadNumbers, BadProgram, BadStart
from claimsieve.sieve import sieved
from tests.generated import Dice, Maker, made_case
from tests.samples import COPY, COUNTDOWN, EVEN, let, program_of

N = (("n", "number"),)
L = (("l", "list"),)
LN = (("l", "list"), ("n", "number"))
N0, N1, N2 = ("of", 0), ("of", 1), ("of", 2)
LEN0, EACH0 = ("len", 0), ("each", 0)
POSITIVE, FILLED = ((), N0, -1), ((), LEN0, -1)
SAME = (N, "number", ("tell", "n"))
MORE = (N, "number", let("x", ("sum", "n", 1), ("tell", "x")))
HEAD = (L, "number", let("x", ("head", "l"), ("tell", "x")))
LENGTH = (L, "number", let("x", ("len", "l"), ("tell", "x")))
AT = (LN, "number", let("x", ("at", "l", "n"), ("tell", "x")))
# Function 1 is called with what function 0 is handed.
CALLS = ((N, "number", let("x", ("call", 1, ("n",)), ("tell", "x"))), SAME)


def rows_of(stays):
    return [(function, word, claim) for function, row in enumerate(stays)
            for word, claims in zip(("ahead", "behind"), row) for claim in claims]


def changes(before, after):
    """What an edit or a begin is to tell, by all that stayed and all that stays."""
    first, then = rows_of(before), rows_of(after)
    return sorted(set(first) - set(then)), sorted(set(then) - set(first))


class DeskTest(unittest.TestCase):
    maxDiff = None

    def is_there(self, desk, program, start, numbers=(-1, 0, 1)):
        """The desk tells what a program is and what is told of it."""
        stays, lacks = sieved(program, start, numbers=numbers)
        self.assertEqual((desk.program(), desk.start(), desk.claims(), desk.lacks()), (program, start, stays, lacks))

    def refused(self, refusal, ask, *args, **more):
        with self.assertRaises(refusal) as caught:
            ask(*args, **more)
        self.assertIs(type(caught.exception), refusal)
        return caught.exception


class MadeTest(DeskTest):
    def test_what_is_there(self):
        for program, start, numbers in ((COUNTDOWN, [], (-1, 0, 1)), (EVEN, [(LEN0, (), 3)], (0,)),
                                        (COPY, [(EACH0, (), 0), FILLED], (-2, 3)), ((AT,), [((), N1, 0)], (0, 1))):
            self.is_there(Desk(program, start, numbers=numbers), program, start, numbers)

    def test_numbers_left_out(self):
        self.is_there(Desk(COPY, []), COPY, [])
        self.assertEqual(Desk(COPY, []).claims(), Desk(COPY, [], numbers=(-1, 0, 1)).claims())
        self.assertNotEqual(Desk(COPY, []).claims(), Desk(COPY, [], numbers=(0,)).claims())

    def test_kinds_of_what_is_told(self):
        desk = Desk(EVEN, [])
        self.assertEqual([type(part) for part in (desk.program(), desk.start(), desk.claims(), desk.lacks())],
                         [tuple, list, list, list])
        self.assertEqual([(type(row), type(row[0]), type(row[1])) for row in desk.claims()], [(tuple, list, list)] * 3)
        for told in (desk.edit(1, EVEN[1]), desk.begin([])):
            self.assertEqual((type(told), type(told[0]), type(told[1])), (tuple, list, list))
        self.assertEqual(type(desk.trial(1, EVEN[1])), list)
        self.assertIs(desk.back(), True)

    def test_refusals(self):
        self.refused(BadProgram, Desk, None, None, numbers=None)
        error = self.refused(BadProgram, Desk, EVEN[:1], None, numbers=None)
        self.assertEqual((error.function, error.place), (0, 0))
        self.refused(BadStart, Desk, EVEN, None, numbers=None)
        self.refused(BadStart, Desk, EVEN, [FILLED, FILLED], numbers=())
        self.refused(BadNumbers, Desk, EVEN, [FILLED], numbers=())
        self.refused(BadNumbers, Desk, EVEN, [FILLED], numbers=(True,))

    def test_start_is_told_as_it_was_handed_in(self):
        start = [(N0, (), 9), POSITIVE, (N0, (), 4)]
        desk = Desk(COUNTDOWN, start)
        self.assertEqual(desk.start(), start)
        self.assertEqual(desk.claims()[0][0], sorted(start))


class EditTest(DeskTest):
    def test_what_stays_no_more_and_what_stays_now(self):
        desk = Desk(CALLS, [], numbers=(0, 1))
        self.assertEqual(desk.edit(1, MORE), (
            [(0, "behind", (N1, N0, 0)), (1, "behind", (N1, N0, 0))], []))
        less = (N, "number", let("x", ("sum", "n", -1), ("tell", "x")))
        self.assertEqual(desk.edit(1, less), (
            [(0, "behind", (N0, N1, 0)), (1, "behind", (N0, N1, 0))],
            [(0, "behind", (N1, N0, 0)), (1, "behind", (N1, N0, 0))]))
        self.is_there(desk, (CALLS[0], less), [], (0, 1))

    def test_the_same_once_more(self):
        desk = Desk(EVEN, [(LEN0, (), 0)])
        for number in range(3):
            self.assertEqual(desk.edit(number, EVEN[number]), ([], []))
            self.is_there(desk, EVEN, [(LEN0, (), 0)])

    def test_it_rises_by_functions_ahead_first(self):
        desk = Desk(CALLS, [], numbers=(0,))
        zero = (N, "number", let("z", ("num", 0), "x", ("call", 1, ("z",)), ("tell", "x")))
        gone, come = desk.edit(0, zero)
        self.assertEqual(gone, [(0, "behind", (N0, N1, 0)), (0, "behind", (N1, N0, 0))])
        self.assertEqual(come, [
            (0, "behind", ((), N1, 0)), (0, "behind", (N1, (), 0)),
            (1, "ahead", ((), N0, 0)), (1, "ahead", (N0, (), 0)),
            (1, "behind", ((), N0, 0)), (1, "behind", ((), N1, 0)),
            (1, "behind", (N0, (), 0)), (1, "behind", (N1, (), 0))])
        self.assertEqual(desk.edit(0, CALLS[0]), (come, gone))

    def test_of_other_params(self):
        """Function 1 is called by nothing, so it may be any."""
        desk = Desk((SAME, SAME), [POSITIVE], numbers=(0,))
        for function in (HEAD, AT, ((), "list", let("e", ("nil",), ("tell", "e"))), LENGTH, SAME):
            before = desk.claims()
            gone, come = desk.edit(1, function)
            self.assertEqual((gone, come), changes(before, desk.claims()))
            self.is_there(desk, (SAME, function), [POSITIVE], (0,))

    def test_of_other_params_of_function_0(self):
        desk = Desk((SAME,), [])
        for function in (HEAD, AT, ((), "list", let("e", ("nil",), ("tell", "e"))), LENGTH, SAME):
            before = desk.claims()
            self.assertEqual(desk.edit(0, function), changes(before, desk.claims()))
            self.is_there(desk, (function,), [])

    def test_where_start_can_not_be_then(self):
        pair = (N + (("m", "number"),), "number", ("tell", "m"))
        none = ((), "number", let("x", ("ask",), ("tell", "x")))
        for program, start, function, fits in (
                ((SAME,), [POSITIVE], HEAD, False), ((SAME,), [POSITIVE], none, False), ((SAME,), [POSITIVE], pair, True),
                ((pair,), [((), N1, 0)], SAME, False), ((pair,), [((), N0, 0)], SAME, True),
                ((AT,), [((), N1, 0)], pair, True), ((AT,), [FILLED], pair, False), ((AT,), [FILLED], HEAD, True)):
            desk = Desk(program, start)
            if fits:
                desk.edit(0, function)
                self.is_there(desk, (function,), start)
                desk.back()
            else:
                for ask in (desk.edit, desk.trial):
                    self.refused(BadStart, ask, 0, function)
            self.is_there(desk, program, start)
            self.assertIs(desk.back(), False)

    def test_no_such_number(self):
        desk = Desk(CALLS, [POSITIVE])
        for number in (-1, 2, 6, 10 ** 20, True, False, None, "", "1", (), (1,), [], [1]):
            for function in (SAME, None, HEAD):
                for ask in (desk.edit, desk.trial):
                    self.refused(BadCount, ask, number, function)
        self.is_there(desk, CALLS, [POSITIVE])

    def test_a_function_that_can_not_be(self):
        desk = Desk(CALLS, [POSITIVE])
        for number, function, where in (
                (1, None, (1, -1)), (1, (), (1, -1)), (1, [*SAME], (1, -1)), (0, (N, "number", ("tell", "m")), (0, 0)),
                (1, (N, "number", let("x", ("num", 100), ("tell", "x"))), (1, 0)),
                (1, (N, "number", let("x", ("num", 1), ("tell", "y"))), (1, 1)),
                # The call of function 0 isn't fit for these.
                (1, HEAD, (0, 0)), (1, AT, (0, 0)), (1, (N, "list", let("e", ("nil",), ("tell", "e"))), (0, 1)),
                (0, (N, "number", let("x", ("call", 0, ("n",)), ("tell", "x"))), (0, 0)),
                # Start can't be either, but that is behind.
                (0, (L, "number", ("tell", "l")), (0, 0)), (0, (L, "kind", ("tell", "l")), (0, -1))):
            with self.subTest(function):
                for ask in (desk.edit, desk.trial):
                    error = self.refused(BadProgram, ask, number, function)
                    self.assertEqual((error.function, error.place), where)
                self.is_there(desk, CALLS, [POSITIVE])
        self.assertIs(desk.back(), False)


class BeginTest(DeskTest):
    def test_what_stays_no_more_and_what_stays_now(self):
        desk = Desk(CALLS, [], numbers=(0,))
        start = [((), N0, 0)]
        gone, come = desk.begin(start)
        self.assertEqual((gone, come), ([], [
            (0, "ahead", ((), N0, 0)), (0, "behind", ((), N0, 0)), (0, "behind", ((), N1, 0)),
            (1, "ahead", ((), N0, 0)), (1, "behind", ((), N0, 0)), (1, "behind", ((), N1, 0))]))
        self.is_there(desk, CALLS, start, (0,))
        self.assertEqual(desk.begin([(N0, (), 0)]), (
            come, [(number, word, claim) for number in range(2) for word, claim in (
                ("ahead", (N0, (), 0)), ("behind", (N0, (), 0)), ("behind", (N1, (), 0)))]))
        self.assertEqual(desk.begin([])[1], [])
        self.is_there(desk, CALLS, [], (0,))

    def test_a_claim_to_start_with_beyond_the_lattice(self):
        desk = Desk((SAME,), [], numbers=(0,))
        self.assertEqual(desk.begin([(N0, (), 77)]), ([], [(0, "ahead", (N0, (), 77))]))
        self.assertEqual(desk.begin([(N0, (), 78)]), ([(0, "ahead", (N0, (), 77))], [(0, "ahead", (N0, (), 78))]))

    def test_the_same_once_more(self):
        start = [(N0, (), 3), POSITIVE]
        desk = Desk(COUNTDOWN, start)
        self.assertEqual(desk.begin(start), ([], []))
        self.assertEqual(desk.begin(start[::-1]), ([], []))
        self.is_there(desk, COUNTDOWN, start[::-1])

    def test_refusals(self):
        desk = Desk(COUNTDOWN, [POSITIVE])
        for start in (None, True, 0, "", (), (POSITIVE,), [None], [POSITIVE, POSITIVE], [FILLED], [((), N1, 0)],
                      [((), N0, 100)], [((), N0, True)], [(N0, N0, 0)]):
            with self.subTest(start):
                self.refused(BadStart, desk.begin, start)
                self.is_there(desk, COUNTDOWN, [POSITIVE])
        self.assertIs(desk.back(), False)

    def test_start_is_of_the_program_that_is_there(self):
        desk = Desk((HEAD,), [])
        self.refused(BadStart, desk.begin, [POSITIVE])
        desk.edit(0, SAME)
        desk.begin([POSITIVE])
        self.refused(BadStart, desk.begin, [FILLED])
        self.is_there(desk, (SAME,), [POSITIVE])


class TrialTest(DeskTest):
    def test_where_something_would_lack(self):
        desk = Desk((SAME, LENGTH), [])
        claims = (N, "number", ("claim", N0[:1] + ("n",), (), 3, ("tell", "n")))
        for number, function, lacks in ((0, claims, [(0, 0)]), (1, HEAD, []), (0, SAME, [])):
            self.assertEqual(desk.trial(number, function), lacks)
            self.is_there(desk, (SAME, LENGTH), [])
        desk.begin([(N0, (), 3)])
        self.assertEqual(desk.trial(0, claims), [])
        desk.begin([(N0, (), 4)])
        self.assertEqual(desk.trial(0, claims), [(0, 0)])
        self.assertEqual(sieved((claims, LENGTH), [(N0, (), 4)])[1], [(0, 0)])

    def test_by_other_functions(self):
        """What lacks where function 0 asks for an item hangs on what function 1 tells."""
        tree = let("i", ("call", 1, ("l",)), "x", ("at", "l", "i"), ("tell", "x"))
        last = (L, "number", let("x", ("len", "l"), "y", ("sum", "x", -1), ("tell", "y")))
        desk = Desk(((L, "number", tree), last), [FILLED])
        self.assertEqual((desk.lacks(), desk.trial(1, LENGTH), desk.trial(1, last)), ([], [(0, 1)], []))
        desk.edit(1, LENGTH)
        self.assertEqual((desk.lacks(), desk.trial(1, LENGTH), desk.trial(1, last)), ([(0, 1)], [(0, 1)], []))

    def test_by_the_numbers_of_the_desk(self):
        tree = let("i", ("call", 1, ("l",)), "x", ("at", "l", "i"), ("tell", "x"))
        last = (L, "number", let("x", ("len", "l"), "y", ("sum", "x", -1), ("tell", "y")))
        for numbers, lacks in (((0,), [(0, 1)]), ((-1, 0), [])):
            desk = Desk(((L, "number", tree), LENGTH), [FILLED], numbers=numbers)
            self.assertEqual(desk.trial(1, last), lacks)
            desk.edit(1, last)
            self.assertEqual(desk.lacks(), lacks)

    def test_the_desk_is_as_it_was(self):
        desk = Desk(CALLS, [POSITIVE])
        desk.edit(1, MORE)
        for number, function in ((0, SAME), (1, MORE), (1, None), (9, SAME), (0, HEAD), (1, HEAD)):
            try:
                desk.trial(number, function)
            except ValueError:
                pass
            self.is_there(desk, (CALLS[0], MORE), [POSITIVE])
        self.assertIs(desk.back(), True)
        self.is_there(desk, CALLS, [POSITIVE])
        self.assertIs(desk.back(), False)


class BackTest(DeskTest):
    def test_behind_nothing(self):
        desk = Desk(CALLS, [POSITIVE])
        for _ in range(3):
            self.assertIs(desk.back(), False)
            self.is_there(desk, CALLS, [POSITIVE])

    def test_behind_one(self):
        desk = Desk(CALLS, [])
        for change in (lambda: desk.edit(1, MORE), lambda: desk.begin([POSITIVE]), lambda: desk.edit(0, CALLS[0])):
            change()
            self.assertIs(desk.back(), True)
            self.is_there(desk, CALLS, [])
            self.assertIs(desk.back(), False)

    def test_behind_several(self):
        desk = Desk(CALLS, [])
        desk.edit(1, MORE)
        desk.begin([POSITIVE])
        desk.begin([POSITIVE, (N0, (), 5)])
        desk.edit(0, MORE)
        for program, start in (((CALLS[0], MORE), [POSITIVE, (N0, (), 5)]), ((CALLS[0], MORE), [POSITIVE]),
                               ((CALLS[0], MORE), []), (CALLS, [])):
            self.assertIs(desk.back(), True)
            self.is_there(desk, program, start)
        self.assertIs(desk.back(), False)

    def test_it_is_taken_back_for_good(self):
        """What is changed behind it is told of what is there."""
        desk = Desk(CALLS, [], numbers=(0,))
        desk.edit(1, MORE)
        desk.back()
        self.assertEqual(desk.begin([(N0, (), 0)])[0], [])
        desk.back()
        self.is_there(desk, CALLS, [], (0,))
        self.assertIs(desk.back(), False)

    def test_behind_refused_ones_and_trials(self):
        desk = Desk(CALLS, [POSITIVE])
        desk.edit(1, MORE)
        self.refused(BadProgram, desk.edit, 1, None)
        self.refused(BadStart, desk.begin, [FILLED])
        self.refused(BadCount, desk.edit, 2, SAME)
        self.refused(BadStart, desk.edit, 0, HEAD)
        desk.trial(1, SAME)
        self.assertIs(desk.back(), True)
        self.is_there(desk, CALLS, [POSITIVE])
        self.assertIs(desk.back(), False)


class KeptTest(DeskTest):
    def test_what_is_handed_in_may_be_changed_afterwards(self):
        start = [POSITIVE]
        desk = Desk(CALLS, start)
        start.append((N0, (), 0))
        self.is_there(desk, CALLS, [POSITIVE])
        start = [(N0, (), 3), (N0, (), 4)]
        desk.begin(start)
        start.clear()
        self.is_there(desk, CALLS, [(N0, (), 3), (N0, (), 4)])
        desk.edit(1, MORE)
        start.append(None)
        self.is_there(desk, (CALLS[0], MORE), [(N0, (), 3), (N0, (), 4)])

    def test_what_is_handed_in_stays(self):
        start = [(N0, (), 4), (N0, (), 3)]
        desk = Desk(CALLS, start)
        desk.begin(start)
        desk.edit(1, MORE)
        desk.back()
        self.assertEqual(start, [(N0, (), 4), (N0, (), 3)])

    def test_what_is_told_may_be_changed(self):
        desk = Desk((AT, SAME), [(N1, (), 5)])
        desk.begin([(N1, (), 4)])
        for _ in range(2):
            desk.start().append(None)
            told = desk.claims()
            told[0][0].clear()
            told[1][1].append(None)
            told.pop()
            desk.lacks().clear()
            self.is_there(desk, (AT, SAME), [(N1, (), 4)])
            desk.trial(0, AT).clear()
            gone, come = desk.edit(1, MORE)
            gone.clear()
            come.clear()
            self.is_there(desk, (AT, MORE), [(N1, (), 4)])
            desk.back()
        desk.back()
        self.is_there(desk, (AT, SAME), [(N1, (), 5)])

    def test_what_was_told_stays_as_it_was(self):
        desk = Desk((AT, SAME), [(N1, (), 5)])
        told = (desk.start(), desk.claims(), desk.lacks())
        first = copy.deepcopy(told)
        desk.begin([])
        desk.edit(0, HEAD)
        desk.back()
        self.assertEqual(told, first)

    def test_two_desks_of_one_program(self):
        start = [POSITIVE]
        one, other = Desk(CALLS, start), Desk(CALLS, start)
        one.edit(1, MORE)
        one.begin([])
        self.is_there(other, CALLS, [POSITIVE])
        self.assertIs(other.back(), False)
        other.edit(0, SAME)
        self.is_there(one, (CALLS[0], MORE), [])
        one.back()
        self.is_there(other, (SAME, SAME), [POSITIVE])
        self.is_there(one, (CALLS[0], MORE), [POSITIVE])

    def test_asked_again_the_same_is_told(self):
        desk = Desk(COPY, [FILLED])
        for _ in range(2):
            self.is_there(desk, COPY, [FILLED])
            self.assertEqual(desk.trial(0, HEAD), [])


class SequencesTest(DeskTest):
    """Each method behind each other one, and changes that are made by number."""

    def steps(self):
        return {
            "edit": lambda desk: desk.edit(1, MORE),
            "begin": lambda desk: desk.begin([(N0, (), 0)]),
            "trial": lambda desk: desk.trial(1, MORE),
            "back": lambda desk: desk.back(),
            "edit refused": lambda desk: self.refused(BadProgram, desk.edit, 1, HEAD),
            "begin refused": lambda desk: self.refused(BadStart, desk.begin, [FILLED]),
            "trial refused": lambda desk: self.refused(BadStart, desk.trial, 0, LENGTH),
            "ask": lambda desk: (desk.program(), desk.start(), desk.claims(), desk.lacks()),
        }

    def test_each_behind_each_other_one(self):
        steps = self.steps()
        for words in itertools.product(steps, repeat=3):
            desk = Desk(CALLS, [POSITIVE], numbers=(0,))
            states = [(CALLS, [POSITIVE])]
            for word in words:
                told = steps[word](desk)
                program, start = states[-1]
                if word == "edit":
                    states.append(((CALLS[0], MORE), start))
                elif word == "begin":
                    states.append((program, [(N0, (), 0)]))
                elif word == "back":
                    self.assertIs(told, len(states) > 1)
                    states = states[:-1] or states
                with self.subTest(words):
                    self.is_there(desk, *states[-1], (0,))

    def test_many_changes(self):
        changed = 0
        for number in range(60):
            program, start, numbers = made_case(number)
            dice = Dice(number + 5000)
            desk = Desk(program, start, numbers=numbers)
            states = [(program, start)]
            for _ in range(6):
                program, start = states[-1]
                throw = dice.below(4)
                before = desk.claims()
                if throw == 0:
                    self.assertIs(desk.back(), len(states) > 1)
                    states = states[:-1] or states
                elif throw == 1:
                    claims = candidates(program, 0)[0]
                    other = [claim for claim in claims[:40] if dice.below(20) == 0]
                    told = desk.begin(other)
                    states.append((program, other))
                    self.assertEqual(told, changes(before, desk.claims()))
                else:
                    at = dice.below(len(program))
                    params, kind, _ = program[at]
                    tree = Maker(dice, [function[:2] for function in program], kind).tree(list(params), 6)
                    function = (params, kind, tree)
                    other = (*program[:at], function, *program[at + 1:])
                    self.assertEqual(desk.trial(at, function), sieved(other, start, numbers=numbers)[1])
                    told = desk.edit(at, function)
                    states.append((other, start))
                    self.assertEqual(told, changes(before, desk.claims()))
                    changed += told != ([], [])
                self.is_there(desk, *states[-1], numbers)
        self.assertGreater(changed, 40)


if __name__ == "__main__":
    unittest.main()
