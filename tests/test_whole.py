"""What is promised of all that the program tells: of what is handed in, what is told, what is refused, and in which order."""

import copy
import itertools
import unittest

from claimsieve.checking import checked
from claimsieve.claims import candidates
from claimsieve.clauses import clauses
from claimsieve.desk import Desk
from claimsieve.errors import BadArgs, BadCount, BadNumbers, BadPaper, BadProgram, BadStart, BadText, ClaimError, NoLack
from claimsieve.notes import read, written
from claimsieve.papers import paper
from claimsieve.runs import run
from claimsieve.searching import broken, why
from claimsieve.sieve import sieved
from claimsieve.weakest import weakest
from tests.samples import COPY, let, program_of

LN = (("l", "list"), ("n", "number"))
LEN0, N1 = ("len", 0), ("of", 1)
AT = program_of(LN, "number", let("x", ("at", "l", "n"), ("tell", "x")))
START = [(N1, LEN0, 3), ((), N1, 0)]
PAPER = paper(AT, START)


def asked():
    """Each function of the interface, what is handed in, and what is handed in by name, with what stands for it."""
    return (
        (run, [AT, [(4, 5), 1], [7]], {"most": 100}),
        (candidates, [AT, 0], {"numbers": (-1, 0, 1)}),
        (clauses, [AT], {}),
        (sieved, [AT, list(START)], {"numbers": (-1, 0, 1)}),
        (paper, [AT, list(START)], {"numbers": (-1, 0, 1)}),
        (checked, [AT, list(START), PAPER], {"numbers": (-1, 0, 1)}),
        (checked, [AT, list(START), (PAPER[0][1:], PAPER[1])], {"numbers": (-1, 0, 1)}),
        (broken, [AT, list(START), 0, 0], {"tries": 200}),
        (broken, [AT, list(START), 0, 1], {"tries": 200}),
        (why, [AT, list(START), 0, 0], {"numbers": (-1, 0, 1), "tries": 200}),
        (why, [AT, [*START, (N1, (), 5), ((), LEN0, -3)], 0, 0], {"numbers": (-1, 0, 1), "tries": 200}),
        (weakest, [AT, [*START, (N1, LEN0, -1)]], {"numbers": (-1, 0, 1)}),
        (asked_of_desk, [AT, list(START)], {"numbers": (-1, 0, 1)}),
        (written, [AT], {}),
        (read, [written(AT)], {}),
    )


def asked_of_desk(program, start, **more):
    """All that a desk tells, in a list."""
    desk = Desk(program, start, **more)
    told = [desk.program(), desk.start(), desk.claims(), desk.lacks(), desk.edit(0, program[0]), desk.begin(start)]
    return told + [desk.trial(0, program[0]), desk.back(), desk.back(), desk.back()]


def spoil(part):
    """Change all lists in what was told, the innermost first."""
    if isinstance(part, (list, tuple)):
        for inner in part:
            spoil(inner)
    if isinstance(part, list):
        part.append("spoilt")
        part.reverse()


class WholeTest(unittest.TestCase):
    def refused(self, refusal, ask, *args, **more):
        with self.assertRaises(ClaimError) as caught:
            ask(*args, **more)
        self.assertIs(type(caught.exception), refusal, (args, more))


class HandedInTest(WholeTest):
    def test_nothing_is_changed(self):
        for ask, args, more in asked():
            with self.subTest(ask.__name__):
                first = copy.deepcopy((args, more))
                ask(*args, **more)
                self.assertEqual((args, more), first)

    def test_asked_again_the_same_is_told_though_what_was_told_is_changed(self):
        for ask, args, more in asked():
            with self.subTest(ask.__name__):
                told = ask(*args, **more)
                expected = copy.deepcopy(told)
                spoil(told)
                self.assertEqual(ask(*args, **more), expected)
                self.assertEqual(ask(*copy.deepcopy(args), **more), expected)

    def test_what_was_told_stays_where_what_was_handed_in_is_changed(self):
        for ask, args, more in asked():
            told = ask(*args, **more)
            expected = copy.deepcopy(told)
            spoil(args)
            self.assertEqual(told, expected)

    def test_by_name_and_left_out(self):
        for ask, args, more in asked():
            with self.subTest(ask.__name__):
                expected = ask(*args)
                for names in itertools.chain(*[itertools.permutations(more, k) for k in range(len(more) + 1)]):
                    self.assertEqual(ask(*args, **{name: more[name] for name in names}), expected)

    def test_by_name_alone(self):
        for ask, args, more in asked():
            if more and ask is not asked_of_desk:
                with self.subTest(ask.__name__), self.assertRaises(TypeError):
                    ask(*args, *more.values())
        with self.assertRaises(TypeError):
            Desk(AT, [], (-1, 0, 1))

    def test_all_may_be_handed_in_by_name(self):
        self.assertEqual(run(program=AT, args=[(4, 5), 1], answers=[]), run(AT, [(4, 5), 1], []))
        self.assertEqual(candidates(program=AT, function=0), candidates(AT, 0))
        self.assertIsNone(checked(program=AT, start=START, paper=PAPER))
        self.assertEqual(broken(program=AT, start=[], function=0, place=0), ([(), 0], []))
        self.assertEqual(why(program=AT, start=[], function=0, place=0), ("run", [(), 0], []))
        self.assertEqual(weakest(program=AT, wishes=[]), [])
        self.assertEqual(Desk(program=AT, start=START).start(), START)
        self.assertEqual(read(text=written(program=AT)), AT)


class NumbersTest(WholeTest):
    def test_truths_are_no_numbers(self):
        for truth in (True, False):
            with self.subTest(truth):
                self.refused(BadArgs, run, AT, [(4, 5), truth], [])
                self.refused(BadArgs, run, AT, [(4, truth), 1], [])
                self.refused(BadArgs, run, AT, [(4, 5), 1], [truth])
                self.refused(BadCount, run, AT, [(4, 5), 1], [], most=truth)
                self.refused(BadCount, candidates, AT, truth)
                self.refused(BadNumbers, candidates, AT, 0, numbers=(truth,))
                start = [(N1, LEN0, truth)]
                for ask in (sieved, paper, weakest, Desk):
                    self.refused(BadStart, ask, AT, start)
                    self.refused(BadStart, ask, AT, [(("of", truth), LEN0, 0)])
                    self.refused(BadNumbers, ask, AT, [], numbers=(truth,))
                self.refused(BadStart, checked, AT, start, PAPER)
                self.refused(BadNumbers, checked, AT, START, PAPER, numbers=(truth,))
                self.refused(BadCount, broken, AT, [], 0, 0, tries=truth)
                self.refused(BadCount, why, AT, [], 0, 0, tries=truth)
                self.assertIsNone(broken(AT, [], truth, 0))
                self.assertIsNone(broken(AT, [], 0, truth))
                self.refused(NoLack, why, AT, [], truth, 0)
                self.refused(NoLack, why, AT, [], 0, truth)
                desk = Desk(AT, [])
                self.refused(BadCount, desk.edit, truth, AT[0])
                self.refused(BadCount, desk.trial, truth, AT[0])
                self.refused(BadStart, desk.begin, start)
                wrong = program_of(LN, "number", let("x", ("num", truth), ("tell", "x")))
                for ask in (clauses, written):
                    self.refused(BadProgram, ask, wrong)
                self.refused(BadProgram, desk.edit, 0, wrong[0])
                self.assertEqual(desk.program(), AT)

    def test_truths_in_papers(self):
        strikes, ends = paper(COPY, [], numbers=(0, 1))
        ones = [k for k, strike in enumerate(strikes) if strike[1][2] in (0, 1)]
        for k in ones[:20]:
            number, (slot, other, n), world = strikes[k]
            changed = (*strikes[:k], (number, (slot, other, bool(n)), world), *strikes[k + 1:])
            self.assertEqual(checked(COPY, [], (changed, ends), numbers=(0, 1)), ("strike", k))


class OrderTest(WholeTest):
    """What is handed in first is refused first, what is handed in by name alone behind all others."""

    def orders(self, ask, *rows):
        """Rows tell of each thing that is handed in its name, what is fit, what isn't, and how that is refused."""
        fit = {name: right for name, right, _, _ in rows}
        ask(**fit)
        for wrong in itertools.product((False, True), repeat=len(rows)):
            if any(wrong):
                handed = {name: (bad if is_wrong else right) for (name, right, bad, _), is_wrong in zip(rows, wrong)}
                first = rows[wrong.index(True)][3]
                with self.subTest((ask.__name__, wrong)):
                    self.refused(first, ask, **handed)

    PROGRAM = ("program", AT, (None,), BadProgram)
    NO_PROGRAM = ("program", AT, None, BadProgram)
    START = ("start", START, [None], BadStart)
    NUMBERS = ("numbers", (0,), (1, 0), BadNumbers)
    TRIES = ("tries", 5, 2001, BadCount)

    def test_run(self):
        self.orders(run, self.PROGRAM, ("args", [(), 0], [0, ()], BadArgs), ("answers", [], None, BadArgs),
                    ("most", 1, 0, BadCount))

    def test_candidates(self):
        self.orders(candidates, self.NO_PROGRAM, ("function", 0, 1, BadCount), self.NUMBERS)

    def test_sieved_paper_and_desk(self):
        for ask in (sieved, paper, Desk):
            self.orders(ask, self.PROGRAM, self.START, self.NUMBERS)

    def test_checked(self):
        self.orders(checked, self.PROGRAM, self.START, self.NUMBERS, ("paper", PAPER, [], BadPaper))

    def test_broken(self):
        for function, place in ((0, 0), (7, 0), (None, None)):
            def ask(**more):
                return broken(function=function, place=place, **more)

            self.orders(ask, self.PROGRAM, self.START, self.TRIES)

    def test_why(self):
        for name, wrong in (("function", 1), ("place", 1), ("function", None), ("place", -1)):
            other = "place" if name == "function" else "function"

            def ask(**more):
                return why(**{other: 0}, **more)

            self.orders(ask, self.PROGRAM, self.START, self.NUMBERS, self.TRIES, (name, 0, wrong, NoLack))

    def test_weakest(self):
        self.orders(weakest, self.PROGRAM, ("wishes", START, [*START, *START], BadStart), self.NUMBERS)
        self.orders(weakest, self.PROGRAM, ("wishes", START, [(N1, (), n) for n in range(5)], BadStart), self.NUMBERS)

    def test_desks_methods(self):
        desk = Desk(AT, START)
        wrong = (LN[:1], "number", let("x", ("len", "l"), ("tell", "x")))
        for ask in (desk.edit, desk.trial):
            self.orders(ask, ("number", 0, 1, BadCount), ("function", AT[0], None, BadProgram))
            self.orders(ask, ("number", 0, -1, BadCount), ("function", AT[0], wrong, BadStart))
        self.orders(desk.begin, ("start", [], [None], BadStart))

    def test_texts(self):
        self.orders(read, ("text", written(AT), "", BadText))
        self.orders(read, ("text", written(AT), "> number : tell x", BadProgram))
        self.orders(written, self.PROGRAM)
        self.orders(clauses, self.NO_PROGRAM)


if __name__ == "__main__":
    unittest.main()
