"""The lattice of claims ahead of a function and behind it."""

import copy
import inspect
import unittest

from claimsieve import claims
from claimsieve.claims import NUMBERS, candidates
from claimsieve.errors import BadCount, BadNumbers, BadProgram
from tests.samples import EVEN, program_of

N = (("n", "number"),)
L = (("l", "list"),)
ASK = ("let", "x", ("ask",), ("tell", "x"))
NIL = ("let", "x", ("nil",), ("tell", "x"))
OF = tuple(("of", k) for k in range(5))
LEN = tuple(("len", k) for k in range(5))
EACH = tuple(("each", k) for k in range(5))


def claims_over(slots, numbers):
    """All claims of these slots, which rise."""
    return [(slot, other, n) for slot in slots for other in slots if slot != other for n in numbers]


class CandidatesTest(unittest.TestCase):
    def told(self, params, tree, ahead, behind, numbers=NUMBERS):
        kind = "list" if tree == NIL else "number"
        program = program_of(params, kind, tree)
        self.assertEqual(candidates(program, 0, numbers=numbers), (claims_over(ahead, numbers), claims_over(behind, numbers)))

    def test_no_params(self):
        self.assertEqual(candidates(program_of((), "number", ASK), 0, numbers=(0, 2)), ([], [
            ((), ("of", 0), 0), ((), ("of", 0), 2), (("of", 0), (), 0), (("of", 0), (), 2)]))
        self.told((), NIL, [()], [(), EACH[0], LEN[0]])

    def test_a_number(self):
        self.told(N, ASK, [(), OF[0]], [(), OF[0], OF[1]])
        self.told(N, NIL, [(), OF[0]], [(), EACH[1], LEN[1], OF[0]])

    def test_a_list(self):
        self.told(L, ASK, [(), EACH[0], LEN[0]], [(), EACH[0], LEN[0], OF[1]])
        self.told(L, NIL, [(), EACH[0], LEN[0]], [(), EACH[0], EACH[1], LEN[0], LEN[1]])

    def test_a_list_word_by_word(self):
        ahead, _ = candidates(program_of(L, "number", ASK), 0, numbers=(-3,))
        self.assertEqual(ahead, [
            ((), ("each", 0), -3), ((), ("len", 0), -3),
            (("each", 0), (), -3), (("each", 0), ("len", 0), -3),
            (("len", 0), (), -3), (("len", 0), ("each", 0), -3)])

    def test_several_params(self):
        params = (("a", "list"), ("b", "number"), ("c", "list"), ("d", "number"))
        ahead = [(), EACH[0], EACH[2], LEN[0], LEN[2], OF[1], OF[3]]
        self.told(params, ASK, ahead, [*ahead, OF[4]])
        self.told(params, NIL, ahead, [(), EACH[0], EACH[2], EACH[4], LEN[0], LEN[2], LEN[4], OF[1], OF[3]])

    def test_four_lists(self):
        params = tuple((name, "list") for name in "abcd")
        self.told(params, NIL, [(), *EACH[:4], *LEN[:4]], [(), *EACH, *LEN], numbers=(-9, -1, 0, 3, 9))

    def test_they_rise(self):
        params = (("a", "list"), ("b", "number"), ("c", "list"), ("d", "number"))
        for row in candidates(program_of(params, "list", NIL), 0):
            self.assertEqual(row, sorted(row))
            self.assertEqual(len(row), len(set(row)))

    def test_each_function_has_its_own(self):
        program = ((N, "number", ASK), ((), "list", NIL), (L, "list", NIL))
        self.assertEqual(candidates(program, 1), (
            [], claims_over([(), EACH[0], LEN[0]], NUMBERS)))
        self.assertEqual(candidates(program, 2), (
            claims_over([(), EACH[0], LEN[0]], NUMBERS), claims_over([(), EACH[0], EACH[1], LEN[0], LEN[1]], NUMBERS)))

    def test_numbers_of_one_and_of_five(self):
        for numbers in ((0,), (-9,), (9,), (-9, 9), (-9, -8, 0, 8, 9), (1, 2, 3, 4, 5)):
            self.told(N, ASK, [(), OF[0]], [(), OF[0], OF[1]], numbers=numbers)

    def test_numbers_left_out(self):
        self.assertEqual(NUMBERS, (-1, 0, 1))
        self.assertEqual(candidates(EVEN, 1), candidates(EVEN, 1, numbers=(-1, 0, 1)))

    def test_what_is_told_may_be_changed_and_is_told_again(self):
        told = candidates(EVEN, 0)
        self.assertEqual((type(told), type(told[0]), type(told[1])), (tuple, list, list))
        expected = copy.deepcopy(told)
        told[0].clear()
        told[1].append(None)
        self.assertEqual(candidates(EVEN, 0), expected)

    def test_what_is_handed_in_stays(self):
        program, numbers = copy.deepcopy(EVEN), (0, 1)
        candidates(program, 0, numbers=numbers)
        self.assertEqual((program, numbers), (EVEN, (0, 1)))


class RefusalsTest(unittest.TestCase):
    def refused(self, refusal, program, function, **more):
        with self.assertRaises(refusal) as caught:
            candidates(program, function, **more)
        self.assertIs(type(caught.exception), refusal)

    def test_no_such_function(self):
        for function in (-1, 3, 4, True, False, None, "0", (), [], (0,)):
            with self.subTest(function):
                self.refused(BadCount, EVEN, function)

    def test_numbers_are_a_tuple(self):
        for numbers in (None, True, 0, "", "0", [], [0], [-1, 0, 1]):
            with self.subTest(numbers):
                self.refused(BadNumbers, EVEN, 0, numbers=numbers)

    def test_numbers_are_one_to_five(self):
        for numbers in ((), (0, 1, 2, 3, 4, 5), (-9, -8, -7, -6, -5, -4, -3)):
            with self.subTest(numbers):
                self.refused(BadNumbers, EVEN, 0, numbers=numbers)

    def test_numbers_are_from_minus_9_to_9(self):
        for numbers in ((-10,), (10,), (-10, 0), (0, 10), (-9, 0, 100)):
            with self.subTest(numbers):
                self.refused(BadNumbers, EVEN, 0, numbers=numbers)

    def test_numbers_are_whole(self):
        for numbers in ((True,), (False,), (False, True), (0, True), (None,), ("0",), ((),), ([],), (0, None), (0, "1")):
            with self.subTest(numbers):
                self.refused(BadNumbers, EVEN, 0, numbers=numbers)

    def test_numbers_rise(self):
        for numbers in ((0, 0), (1, 0), (0, 1, 1), (-1, 1, 0), (0, -1, 1)):
            with self.subTest(numbers):
                self.refused(BadNumbers, EVEN, 0, numbers=numbers)

    def test_what_is_handed_in_first_is_refused_first(self):
        self.refused(BadProgram, None, None, numbers=None)
        self.refused(BadProgram, EVEN[:1], 3, numbers=None)
        self.refused(BadCount, EVEN, 3, numbers=None)
        self.refused(BadNumbers, EVEN, 0, numbers=None)


class InterfaceTest(unittest.TestCase):
    def test_names_and_arguments(self):
        self.assertEqual(candidates.__module__, "claimsieve.claims")
        self.assertEqual(str(inspect.signature(candidates)), "(program, function, *, numbers=(-1, 0, 1))")
        self.assertEqual(claims.NUMBERS, (-1, 0, 1))


if __name__ == "__main__":
    unittest.main()
