"""What can be claims to start with, and what is refused ahead of them and behind them."""

import copy
import unittest

from claimsieve.checking import checked
from claimsieve.errors import BadNumbers, BadPaper, BadProgram, BadStart
from claimsieve.papers import paper
from claimsieve.sieve import sieved
from tests.samples import COUNTDOWN, EVEN, program_of

# Things ahead: 0 a number, 1 a list, 2 a number, 3 a list.
PARAMS = (("a", "number"), ("b", "list"), ("c", "number"), ("d", "list"))
PROGRAM = program_of(PARAMS, "number", ("tell", "a"))
ODD = (None, True, False, 0, 1, "", "of", (), [], {}, ("of",), ("of", 0), ["of", 0], ((), ()), ((),), "((), (), 0)")


class StartTest(unittest.TestCase):
    def refused(self, refusal, program, start, **more):
        for ask in (sieved, paper, lambda *args, **rest: checked(*args, ((), ()), **rest)):
            with self.assertRaises(refusal) as caught:
                ask(program, start, **more)
            self.assertIs(type(caught.exception), refusal)
        return caught.exception

    def accepted(self, *start):
        stays, _ = sieved(PROGRAM, list(start))
        self.assertEqual(stays[0][0], sorted(start))

    def test_claims_ahead_of_function_0(self):
        self.accepted()
        for slot in (("of", 0), ("len", 1), ("each", 1), ("of", 2), ("len", 3), ("each", 3)):
            for n in (-99, -1, 0, 99):
                self.accepted((slot, (), n))
                self.accepted(((), slot, n))
        self.accepted((("len", 1), ("each", 1), 5), (("each", 1), ("len", 1), 5), (("each", 1), ("each", 3), -50))

    def test_claims_that_are_alike_but_for_one_part(self):
        self.accepted((("of", 0), (), 1), (("of", 0), (), 2), (("of", 2), (), 1), ((), ("of", 0), 1))

    def test_start_is_a_list(self):
        claim = (("of", 0), (), 0)
        for start in (None, True, 0, "", (), (claim,), {}, {claim: True}, claim):
            with self.subTest(start):
                self.refused(BadStart, PROGRAM, start)

    def test_start_is_of_claims(self):
        for claim in (*ODD, (("of", 0), ()), (("of", 0), (), 0, 0), [("of", 0), (), 0]):
            with self.subTest(claim):
                self.refused(BadStart, PROGRAM, [claim])
                self.refused(BadStart, PROGRAM, [(("of", 0), (), 0), claim])

    def test_slots(self):
        for slot in (None, True, 0, "", "of", [], ["of", 0], ("of",), ("len",), ("of", 0, 0), ("of", "a"), ("of", None),
                     ("of", -1), ("of", 4), ("len", 4), ("each", 99), ("of", True), ("of", False), ("len", True),
                     ("each", True), (0, "of"), ("Of", 0), ("item", 1), ((), 0), (["of"], 0), ("of", (0,)), ("of", [0]),
                     ("of", 1), ("of", 3), ("len", 0), ("len", 2), ("each", 0), ("each", 2), (None, 0), ((),)):
            with self.subTest(slot):
                self.refused(BadStart, PROGRAM, [(slot, ("len", 1), 0)])
                self.refused(BadStart, PROGRAM, [(("len", 1), slot, 0)])

    def test_slots_are_unlike(self):
        for slot in ((), ("of", 0), ("len", 1), ("each", 1)):
            for n in (-1, 0, 1):
                with self.subTest((slot, n)):
                    self.refused(BadStart, PROGRAM, [(slot, slot, n)])

    def test_no_things_behind_a_function(self):
        self.refused(BadStart, COUNTDOWN, [(("of", 1), (), 0)])
        self.refused(BadStart, program_of((), "number", ("let", "x", ("ask",), ("tell", "x"))), [(("of", 0), (), 0)])

    def test_numbers_of_claims(self):
        for n in (-100, 100, 1000, True, False, None, "", "0", (), [], (0,)):
            with self.subTest(n):
                self.refused(BadStart, PROGRAM, [(("of", 0), (), n)])

    def test_a_claim_twice(self):
        one, other = (("of", 0), (), 0), ((), ("len", 1), -1)
        self.refused(BadStart, PROGRAM, [one, one])
        self.refused(BadStart, PROGRAM, [one, other, copy.deepcopy(one)])

    def test_what_is_handed_in_first_is_refused_first(self):
        self.refused(BadProgram, None, None, numbers=None)
        self.refused(BadProgram, EVEN[:1], None, numbers=None)
        self.refused(BadStart, EVEN, None, numbers=None)
        self.refused(BadStart, EVEN, [None], numbers=())
        self.refused(BadNumbers, EVEN, [], numbers=None)

    def test_of_a_program_what_run_refuses(self):
        wrong = (COUNTDOWN[0], COUNTDOWN[1][:2] + (("claim", (), (), 0, ("tell", "m")),))
        error = self.refused(BadProgram, wrong, [])
        self.assertEqual((error.function, error.place), (1, 1))
        error = self.refused(BadProgram, COUNTDOWN + (None,), [])
        self.assertEqual((error.function, error.place), (2, -1))

    def test_numbers_of_the_lattice(self):
        for numbers in (None, True, 0, "", (), [], [0], (0, 0), (1, 0), (-10,), (10,), (True,), (0, True), ("0",),
                        (0, 1, 2, 3, 4, 5)):
            with self.subTest(numbers):
                self.refused(BadNumbers, EVEN, [], numbers=numbers)

    def test_paper_behind_all_others(self):
        def refused(refusal, *args, **more):
            with self.assertRaises(refusal):
                checked(*args, **more)

        refused(BadProgram, None, None, None, numbers=None)
        refused(BadStart, EVEN, None, None, numbers=None)
        refused(BadNumbers, EVEN, [], None, numbers=None)
        refused(BadNumbers, EVEN, [], ((), ()), numbers=(True,))
        refused(BadPaper, EVEN, [], None, numbers=(0,))

    def test_start_is_not_changed_and_not_kept(self):
        start = [(("of", 2), (), 0), (("of", 0), (), 0)]
        first = copy.deepcopy(start)
        for ask in (sieved, paper):
            told = ask(PROGRAM, start)
            expected = copy.deepcopy(told)
            self.assertEqual(start, first)
            start.append(((), ("of", 0), 5))
            self.assertEqual(told, expected)
            del start[2:]


if __name__ == "__main__":
    unittest.main()
