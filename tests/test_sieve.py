"""What stays of a program's claims, and where something lacks."""

import copy
import inspect
import itertools
import unittest

from claimsieve import sieve
from claimsieve.claims import NUMBERS, candidates
from claimsieve.runs import run
from claimsieve.sieve import sieved
from tests import oracle
from tests.samples import COPY, COUNTDOWN, EVEN, let, program_of

N = (("n", "number"),)
L = (("l", "list"),)
LN = (("l", "list"), ("n", "number"))
LK = (("l", "list"), ("k", "list"))
N0, N1, N2 = ("of", 0), ("of", 1), ("of", 2)
LEN0, LEN1, LEN2 = ("len", 0), ("len", 1), ("len", 2)
EACH0, EACH1, EACH2 = ("each", 0), ("each", 1), ("each", 2)
# Claims that can't both be true.
NEVER = [(N0, (), -1), ((), N0, -1)]


def is_zero(slot):
    return [(slot, (), 0), ((), slot, 0)]


def tells_of(params, kind, called, tree):
    """Function 0 hands some of its params on to function 1, which has params of the same kinds, and tells a number."""
    kinds = dict(params)
    heads = tuple((f"p{'abcd'[k]}", kinds[name]) for k, name in enumerate(called))
    inner = let("x", ("num", 0), ("tell", "x"))
    return ((params, kind, let("called", ("call", 1, called), tree)), (heads, "number", inner))


class SieveTest(unittest.TestCase):
    maxDiff = None

    def told(self, program, start, spot, numbers=NUMBERS):
        function, word = spot
        stays, _ = sieved(program, start, numbers=numbers)
        return stays[function][("ahead", "behind").index(word)]

    def stays(self, program, start, spot, *claims, numbers=NUMBERS):
        told = self.told(program, start, spot, numbers)
        for claim in claims:
            self.assertIn(claim, told)

    def struck(self, program, start, spot, *claims, numbers=NUMBERS):
        told = self.told(program, start, spot, numbers)
        lattice = candidates(program, spot[0], numbers=numbers)[("ahead", "behind").index(spot[1])]
        for claim in claims:
            self.assertIn(claim, lattice)
            self.assertNotIn(claim, told)


class NumbersTest(SieveTest):
    BEHIND = (0, "behind")

    def test_what_is_handed_in_is_told(self):
        program = program_of(N, "number", ("tell", "n"))
        same = [(N0, N1, 0), (N0, N1, 1), (N1, N0, 0), (N1, N0, 1)]
        self.assertEqual(sieved(program, []), ([([], same)], []))
        start = [(N0, (), 0)]
        more = [(N0, (), 0), (N0, (), 1), (N1, (), 0), (N1, (), 1)]
        self.assertEqual(sieved(program, start), ([(start, sorted(same + more))], []))

    def test_start_beyond_the_lattice_tells_what_is_in_it(self):
        program = program_of(N, "number", ("tell", "n"))
        self.stays(program, [(N0, (), -50)], self.BEHIND, (N1, (), -1), (N1, (), 1), (N0, (), -1))
        self.struck(program, [(N0, (), 50)], self.BEHIND, (N1, (), 1), (N0, (), 1))
        self.assertEqual(sieved(program, [(N0, (), -50)])[0][0][0], [(N0, (), -50)])

    def test_start_stands_as_it_is_and_rises(self):
        start = [(N0, (), 7), ((), N0, 99), (N0, (), -3)]
        self.assertEqual(sieved(program_of(N, "number", ("tell", "n")), start)[0][0][0], sorted(start))

    def test_num_sum_and_len(self):
        tree = let("x", ("num", 5), "y", ("sum", "x", -7), "z", ("sum", "n", 1), "w", ("len", "l"))
        for name, claim, near in (
                ("x", (N2, (), 5), (N2, (), 4)), ("x", ((), N2, -5), ((), N2, -6)),
                ("y", (N2, (), -2), (N2, (), -3)), ("y", ((), N2, 2), ((), N2, 1)),
                ("z", (N2, N1, 1), (N2, N1, 0)), ("z", (N1, N2, -1), (N1, N2, -2)),
                ("w", (N2, LEN0, 0), (N2, LEN0, -1)), ("w", (LEN0, N2, 0), (LEN0, N2, -1))):
            with self.subTest((name, claim)):
                tree = let("x", ("num", 5), "y", ("sum", "x", -7), "z", ("sum", "n", 1), "w", ("len", "l"),
                           ("tell", name))
                program = program_of(LN, "number", tree)
                self.stays(program, [], self.BEHIND, claim, numbers=(claim[2],))
                self.struck(program, [], self.BEHIND, near, numbers=(near[2],))

    def test_nothing_is_known_of_an_answer(self):
        self.assertEqual(sieved(program_of((), "number", let("x", ("ask",), ("tell", "x"))), []), ([([], [])], []))

    def test_if(self):
        tree = ("if", ("of", "n"), (), 0, let("x", ("num", 0), ("tell", "x")), ("tell", "n"))
        program = program_of(N, "number", tree)
        self.stays(program, [], self.BEHIND, ((), N1, 0), (N0, N1, 0))
        self.struck(program, [], self.BEHIND, ((), N1, -1), (N0, N1, -1), (N1, N0, 0), (N1, (), 1))

    def test_the_other_tree_of_an_if(self):
        tree = ("if", ("of", "n"), (), 0, let("x", ("num", 1), ("tell", "x")), ("tell", "n"))
        program = program_of(N, "number", tree)
        self.stays(program, [], self.BEHIND, ((), N1, -1))

    def test_a_claim_is_known_behind_it(self):
        program = program_of(N, "number", ("claim", (), ("of", "n"), 0, ("tell", "n")))
        told, lacks = sieved(program, [])
        self.assertEqual(lacks, [(0, 0)])
        self.assertIn(((), N1, 0), told[0][1])
        self.assertNotIn(((), N1, -1), told[0][1])
        self.assertEqual(sieved(program, [((), N0, 0)])[1], [])

    def test_several_links_on_the_way(self):
        tree = ("claim", ("of", "a"), ("of", "b"), -5, ("claim", ("of", "b"), ("of", "c"), 2,
                ("claim", ("of", "c"), (), 4, ("tell", "a"))))
        program = program_of((("a", "number"), ("b", "number"), ("c", "number")), "number", tree)
        self.stays(program, [], self.BEHIND, (("of", 3), (), 1), (("of", 3), N2, -3), numbers=(-3, 1))
        self.struck(program, [], self.BEHIND, (("of", 3), (), 0), (("of", 3), N2, -4), numbers=(-4, 0))

    def test_where_nothing_can_be_all_is_kept(self):
        never = let("e", ("nil",), "x", ("head", "e"), ("tell", "x"))
        tree = ("if", ("of", "n"), (), 0, ("if", (), ("of", "n"), -1, never, ("tell", "n")), ("tell", "n"))
        told, lacks = sieved(program_of(N, "number", tree), [])
        self.assertEqual((told[0][1], lacks), ([(N0, N1, 0), (N0, N1, 1), (N1, N0, 0), (N1, N0, 1)], []))


class ListsTest(SieveTest):
    BEHIND = (0, "behind")

    def test_lengths_are_0_at_the_least(self):
        program = program_of(L, "number", let("x", ("len", "l"), ("tell", "x")))
        self.stays(program, [], self.BEHIND, ((), N1, 0), ((), LEN0, 0), ((), LEN0, 1))
        self.struck(program, [], self.BEHIND, ((), N1, -1), ((), LEN0, -1))

    def test_lengths_are_0_at_the_least_of_two_lists(self):
        """One less, both ways: the longer one isn't empty."""
        program = program_of(LK, "list", ("tell", "l"))
        self.stays(program, [(LEN0, LEN1, -1)], self.BEHIND, ((), LEN1, -1))
        self.struck(program, [(LEN0, LEN1, 0)], self.BEHIND, ((), LEN1, -1))
        self.struck(program, [(LEN0, LEN1, -1)], self.BEHIND, ((), LEN0, -1))

    def test_an_empty_list_has_no_items(self):
        program = program_of(L, "list", ("tell", "l"))
        empty = [(EACH0, (), -1), ((), EACH0, -1), (EACH0, LEN0, -1), (EACH0, EACH1, -1)]
        self.stays(program, [(LEN0, (), 0)], self.BEHIND, *empty)
        self.struck(program, [(LEN0, (), 1)], self.BEHIND, *empty)
        self.struck(program, [], self.BEHIND, *empty)

    def test_a_list_has_items(self):
        """n is at most each item, which is at most 0; so n is at most 0, if there is an item."""
        program = program_of(LN, "number", ("tell", "n"))
        start = [(N1, EACH0, 0), (EACH0, (), 0)]
        self.stays(program, [*start, ((), LEN0, -1)], self.BEHIND, (N2, (), 0))
        self.struck(program, [*start, ((), LEN0, 0)], self.BEHIND, (N2, (), 0))

    def test_no_item_can_be_so_the_list_is_empty(self):
        program = program_of(L, "list", ("tell", "l"))
        start = [(EACH0, (), -1), ((), EACH0, 0)]
        self.stays(program, start, self.BEHIND, (LEN1, (), 0), (LEN0, (), 0))
        self.struck(program, start[:1], self.BEHIND, (LEN1, (), 0))
        self.struck(program, start[1:], self.BEHIND, (LEN1, (), 0))

    def test_the_items_of_one_list_make_another_one_have_items(self):
        """Each item of l is from 0 to k's length less one; n is at most each of k's, which are at most 0."""
        program = program_of((*LK, ("n", "number")), "number", ("tell", "n"))
        start = [((), LEN0, -1), ((), EACH0, 0), (EACH0, LEN1, -1), (N2, EACH1, 0), (EACH1, (), 0)]
        self.stays(program, start, self.BEHIND, (("of", 3), (), 0))
        for k in range(len(start)):
            with self.subTest(start[k]):
                self.struck(program, start[:k] + start[k + 1:], self.BEHIND, (("of", 3), (), 0))

    def test_of_two_lists_one_can_not_have_items(self):
        """Each item of k is less than each of l's and not less, so if l has one, k has none."""
        program = program_of(LK, "list", ("tell", "l"))
        start = [((), LEN0, -1), (EACH1, EACH0, -1), (EACH0, EACH1, 0)]
        self.stays(program, start, self.BEHIND, (LEN1, (), 0), (EACH1, (), -1))
        for k in range(3):
            self.struck(program, start[:k] + start[k + 1:], self.BEHIND, (LEN1, (), 0))

    def test_nil(self):
        program = program_of((), "list", let("e", ("nil",), ("tell", "e")))
        self.assertEqual(sieved(program, []), ([([], [
            claim for claim in candidates(program, 0)[1] if claim not in (((), LEN0, -1), (LEN0, (), -1))])], []))

    def test_a_list_that_is_not_nil(self):
        self.struck(program_of(L, "list", ("tell", "l")), [], self.BEHIND, (LEN1, (), 0), (LEN1, (), 1), (EACH1, (), 1))

    def test_one_by_head_and_by_at(self):
        for deed in (("head", "l"), ("at", "l", "n")):
            program = program_of(LN, "number", let("x", deed, ("tell", "x")))
            for start, claim in (((EACH0, (), 0), (N2, (), 0)), (((), EACH0, -1), ((), N2, -1)),
                                 ((EACH0, N1, 1), (N2, N1, 1)), ((EACH0, LEN0, -1), (N2, LEN0, -1))):
                with self.subTest((deed, start)):
                    self.stays(program, [start], self.BEHIND, claim)
                    self.struck(program, [start], self.BEHIND, claim[:2] + (claim[2] - 1,),
                                numbers=(claim[2] - 1, claim[2]))
                    self.struck(program, [], self.BEHIND, claim)

    def test_one_makes_the_list_have_an_item(self):
        program = program_of(LN, "number", let("x", ("head", "l"), ("tell", "n")))
        self.stays(program, [], self.BEHIND, ((), LEN0, -1))
        start = [(N1, EACH0, 0), (EACH0, (), 0)]
        self.stays(program, start, self.BEHIND, (N2, (), 0))
        self.struck(program_of(LN, "number", ("tell", "n")), start, self.BEHIND, (N2, (), 0))

    def test_one_of_one_list_is_none_of_another_one(self):
        program = program_of(LK, "number", let("x", ("head", "l"), ("tell", "x")))
        self.struck(program, [(EACH1, (), 0)], self.BEHIND, (N2, (), 0))
        self.stays(program, [(EACH1, (), 0), (EACH0, EACH1, 0), ((), LEN1, -1)], self.BEHIND, (N2, (), 0))
        self.struck(program, [(EACH1, (), 0), (EACH0, EACH1, 0)], self.BEHIND, (N2, (), 0))

    def test_part(self):
        program = program_of(L, "list", let("t", ("tail", "l"), ("tell", "t")))
        self.stays(program, [], self.BEHIND, (LEN1, LEN0, -1), (LEN0, LEN1, 1), ((), LEN1, 0), ((), LEN0, -1))
        self.struck(program, [], self.BEHIND, (LEN0, LEN1, 0), ((), LEN1, -1), (EACH1, EACH0, 1), (EACH1, (), 0))
        self.stays(program, [(EACH0, (), 0)], self.BEHIND, (EACH1, (), 0))
        self.stays(program, [(EACH0, LEN0, -1)], self.BEHIND, (EACH1, LEN1, 0))
        self.struck(program, [(EACH0, LEN0, 0)], self.BEHIND, (EACH1, LEN1, 0))

    def test_an_item_of_a_part_of_a_part_is_an_item_of_the_list(self):
        tree = let("t", ("tail", "l"), "u", ("tail", "t"), "x", ("head", "u"), ("tell", "x"))
        program = program_of(L, "number", tree)
        self.stays(program, [(EACH0, (), 0)], self.BEHIND, (N1, (), 0))
        self.struck(program, [(EACH0, (), 0)], self.BEHIND, (N1, (), -1))
        self.struck(program, [], self.BEHIND, (N1, (), 1))

    def test_an_item_of_the_list_may_be_none_of_its_part(self):
        """Function 1 tells of the empty list alone, so the tail has no items behind it; the list has one."""
        empty = (L, "number", ("claim", ("len", "l"), (), 0, let("x", ("num", 0), ("tell", "x"))))
        for part, claim in (("t", (N1, (), 1)), ("l", (N1, (), -1))):
            tree = let("x", ("head", "l"), "t", ("tail", "l"), "y", ("call", 1, (part,)), ("tell", "x"))
            program = ((L, "number", tree), empty)
            self.stays(program, [], (1, "behind"), (EACH0, (), -1))
            ask = self.struck if part == "t" else self.stays
            ask(program, [], self.BEHIND, claim)

    def test_made(self):
        program = program_of(LN, "list", let("m", ("put", "n", "l"), ("tell", "m")))
        self.stays(program, [], self.BEHIND, (LEN2, LEN0, 1), (LEN0, LEN2, -1), ((), LEN2, -1))
        self.struck(program, [], self.BEHIND, (LEN2, LEN0, 0), (LEN0, LEN2, -2), ((), LEN2, -2), numbers=(-2, 0))
        both = [(EACH0, (), 0), (N1, (), 0)]
        self.stays(program, both, self.BEHIND, (EACH2, (), 0))
        self.struck(program, both[:1], self.BEHIND, (EACH2, (), 0))
        self.struck(program, both[1:], self.BEHIND, (EACH2, (), 0))

    def test_made_of_both_sides_of_a_claim(self):
        program = program_of((*LN, ("k", "list")), "list", let("m", ("put", "n", "l"), ("tell", "m")))
        ahead = [((), EACH0, 0), ((), N1, 0), (("each", 2), (), -1)]
        self.stays(program, ahead, self.BEHIND, (("each", 2), ("each", 3), -1), (("each", 2), N1, -1))
        for k in range(3):
            self.struck(program, ahead[:k] + ahead[k + 1:], self.BEHIND, (("each", 2), ("each", 3), -1))

    def test_the_items_of_what_was_made_are_handed_on(self):
        program = tells_of(LN, "number", ("l", "n"), ("tell", "n"))
        tree = let("m", ("put", "n", "l"), "y", ("call", 1, ("m", "n")), ("tell", "y"))
        program = ((LN, "number", tree), program[1])
        self.stays(program, [(EACH0, N1, 0)], (1, "ahead"), (EACH0, N1, 0), (EACH0, N1, 1), ((), LEN0, -1))
        self.struck(program, [(EACH0, N1, 0)], (1, "ahead"), (EACH0, N1, -1), (N1, EACH0, 0))
        self.struck(program, [], (1, "ahead"), (EACH0, N1, 1))

    def test_made_upon_made(self):
        tree = let("m", ("put", "n", "l"), "k", ("put", "n", "m"), "j", ("put", "a", "k"), ("tell", "j"))
        program = program_of((*LN, ("a", "number")), "list", tree)
        start = [(EACH0, (), 0), (N1, (), 0), (N2, (), 0)]
        self.stays(program, start, self.BEHIND, (("each", 3), (), 0), (("len", 3), LEN0, 3), numbers=(0, 3))
        self.struck(program, start, self.BEHIND, (("len", 3), LEN0, 2), numbers=(0, 2))
        for k in range(3):
            self.struck(program, start[:k] + start[k + 1:], self.BEHIND, (("each", 3), (), 0))

    def test_head_and_tail_of_what_was_made(self):
        tree = let("m", ("put", "n", "l"), "x", ("head", "m"), ("tell", "x"))
        self.assertEqual(sieved(program_of(LN, "number", tree), []), sieved(program_of(LN, "number", ("tell", "n")), []))
        tree = let("m", ("put", "n", "l"), "t", ("tail", "m"), ("tell", "t"))
        self.assertEqual(sieved(program_of(LN, "list", tree), []), sieved(program_of(LN, "list", ("tell", "l")), []))

    def test_nothing_is_known_of_an_item_of_what_was_made_by_its_number(self):
        tree = let("m", ("put", "n", "l"), "i", ("num", 0), "x", ("at", "m", "i"), ("tell", "x"))
        program = program_of(LN, "number", tree)
        self.assertEqual(sieved(program, [])[1], [])
        self.struck(program, [(EACH0, (), 0), (N1, (), 0)], self.BEHIND, (N2, (), 0), (N2, N1, 0))

    def test_each_of_two_lists(self):
        program = tells_of(LK, "list", ("l", "k"), ("tell", "l"))
        self.stays(program, [(EACH0, EACH1, -1)], (1, "ahead"), (EACH0, EACH1, -1), (EACH0, EACH1, 0))
        self.struck(program, [(EACH0, EACH1, 0)], (1, "ahead"), (EACH0, EACH1, -1))
        self.struck(program, [(EACH1, EACH0, -1)], (1, "ahead"), (EACH0, EACH1, 1))
        self.stays(program, [(EACH0, (), -1), ((), EACH1, 0)], (1, "ahead"), (EACH0, EACH1, -1))

    def test_each_of_one_list_twice(self):
        """Of both for every two: of an item and itself, too."""
        program = tells_of(L, "list", ("l", "l"), ("tell", "l"))
        self.struck(program, [], (1, "ahead"), (EACH0, EACH1, 1), (EACH0, EACH1, 0), (EACH0, EACH1, -1))
        self.stays(program, is_zero(EACH0), (1, "ahead"), (EACH0, EACH1, 0), (EACH1, EACH0, 0))
        self.struck(program, is_zero(EACH0), (1, "ahead"), (EACH0, EACH1, -1))
        self.stays(program, [(LEN0, (), 0)], (1, "ahead"), (EACH0, EACH1, -1))
        self.stays(program, [(EACH0, (), 1), ((), EACH0, 0)], (1, "ahead"), (EACH0, EACH1, 1))
        self.struck(program, [(EACH0, (), 1), ((), EACH0, 0)], (1, "ahead"), (EACH0, EACH1, 0))

    def test_one_name_for_two_things(self):
        program = tells_of(N, "number", ("n", "n"), ("tell", "n"))
        self.assertEqual(self.told(program, [], (1, "ahead")), [(N0, N1, 0), (N0, N1, 1), (N1, N0, 0), (N1, N0, 1)])

    def test_each_and_lengths(self):
        program = tells_of(LK, "list", ("l", "k"), ("tell", "l"))
        self.stays(program, [(EACH0, LEN1, -1)], (1, "ahead"), (EACH0, LEN1, -1), (EACH0, LEN1, 0))
        self.struck(program, [(EACH0, LEN1, 0)], (1, "ahead"), (EACH0, LEN1, -1))
        self.stays(program, [(LEN1, EACH0, 0)], (1, "ahead"), ((), EACH0, 0))
        self.struck(program, [(LEN1, EACH0, 1)], (1, "ahead"), ((), EACH0, 0))


class SeveralFunctionsTest(SieveTest):
    def test_countdown(self):
        behind = [(N1, (), 0), (N1, (), 1), (N1, N0, 0), (N1, N0, 1)]
        self.assertEqual(sieved(COUNTDOWN, []), ([([], behind), ([], behind)], []))
        self.assertEqual(sieved(COUNTDOWN, [((), N0, 0)])[0][1], (
            [((), N0, 0), ((), N0, 1)],
            sorted(behind + [((), N0, 0), ((), N0, 1), ((), N1, 0), ((), N1, 1)])))

    def test_functions_that_call_one_another(self):
        lengths = [((), LEN0, 0), ((), LEN0, 1)]
        even = [((), N1, 0), ((), N1, 1), (N1, (), 1), (N1, LEN0, 1)]
        odd = even + [(N1, LEN0, 0)]
        self.assertEqual(sieved(EVEN, []), ([
            ([], sorted(lengths + even)), (lengths, sorted(lengths + even)), (lengths, sorted(lengths + odd))], []))

    def test_a_function_that_makes_a_list(self):
        told, lacks = sieved(COPY, [(EACH0, (), 0)])
        self.assertEqual(lacks, [])
        for claim in ((LEN0, LEN1, 0), (LEN1, LEN0, 0), (EACH1, (), 0), (EACH0, (), 0)):
            self.assertIn(claim, told[1][1])
            self.assertIn(claim, told[0][1])
        for claim in ((LEN0, LEN1, -1), (LEN1, LEN0, -1), (EACH1, (), -1), ((), EACH1, 1), (EACH1, EACH0, 1)):
            self.assertNotIn(claim, told[1][1])
        self.assertIn((EACH0, (), 0), told[1][0])
        self.assertNotIn((EACH1, (), 1), sieved(COPY, [])[0][1][1])

    def test_it_goes_on_till_all_that_stays_is_kept(self):
        """Each function hands on one more, so the claims ahead are struck one by one."""
        more = let("m", ("sum", "n", 1), "x", ("call", 1, ("m",)), ("tell", "x"))
        up = (N, "number", ("if", ("of", "n"), (), 2, more, ("tell", "n")))
        program = ((N, "number", let("x", ("call", 1, ("n",)), ("tell", "x"))), up)
        start = is_zero(N0)
        numbers = (-1, 0, 2, 3, 4)
        self.assertEqual(self.told(program, start, (1, "ahead"), numbers), [
            ((), N0, 0), ((), N0, 2), ((), N0, 3), ((), N0, 4), (N0, (), 3), (N0, (), 4)])
        self.stays(program, start, (0, "behind"), (N1, (), 3), numbers=(-3, 3))
        self.stays(program, start, (0, "behind"), ((), N1, -3), numbers=(-3, 3))
        self.struck(program, start, (0, "behind"), (N1, (), 2), numbers=(-3, 2))

    def test_what_keeps_itself_stays(self):
        """A call that never tells keeps all that is claimed of what it tells."""
        program = ((N, "number", let("x", ("call", 1, ("n",)), ("tell", "x"))),
                   (N, "number", let("x", ("call", 1, ("n",)), ("tell", "x"))))
        told, _ = sieved(program, [])
        self.assertEqual(told, [([], candidates(program, 0)[1]), ([], candidates(program, 1)[1])])

    def test_what_nothing_calls(self):
        idle = (N, "number", let("x", ("sum", "n", 1), ("tell", "x")))
        program = ((N, "number", ("tell", "n")), idle)
        told, _ = sieved(program, [])
        self.assertEqual(told[1], candidates(program, 1))
        ahead = [((), N0, 1), (N0, (), 1)]
        behind = [((), N0, 1), ((), N1, 1), (N0, (), 1), (N0, N1, 1), (N1, N0, 1)]
        self.assertEqual(sieved(program, [], numbers=(1,))[0][1], (ahead, behind))

    def test_what_is_called_by_nothing_that_is_called(self):
        idle = (N, "number", let("x", ("call", 2, ("n",)), ("tell", "x")))
        program = ((N, "number", ("tell", "n")), idle, (N, "number", let("x", ("ask",), ("tell", "x"))))
        told, _ = sieved(program, [])
        self.assertEqual(told[1:], [candidates(program, 1), candidates(program, 2)])

    def test_claims_to_start_with_that_nothing_keeps(self):
        called = (N, "number", let("x", ("ask",), ("tell", "x")))
        tree = let("e", ("nil",), "y", ("head", "e"), "x", ("call", 1, ("n",)),
                   ("claim", ("of", "n"), (), -9, ("tell", "y")))
        program = ((N, "number", tree), called)
        told, lacks = sieved(program, NEVER)
        self.assertEqual(told, [(sorted(NEVER), candidates(program, 0)[1]), candidates(program, 1)])
        self.assertEqual(lacks, [])
        self.assertEqual(sieved(program, NEVER[:1])[1], [(0, 1)])

    def test_functions_in_another_order(self):
        def moved(tree, order):
            if isinstance(tree, tuple) and tree[:1] == ("call",):
                return ("call", order.index(tree[1]), tree[2])
            return tuple(moved(part, order) for part in tree) if isinstance(tree, tuple) else tree

        program = (*EVEN, COUNTDOWN[1][:2] + (moved(COUNTDOWN[1][2], [0, 2, 3, 1]),))
        start = [(EACH0, (), 0)]
        told, lacks = sieved(program, start)
        for order in itertools.permutations([1, 2, 3]):
            order = [0, *order]
            other = tuple(program[number][:2] + (moved(program[number][2], order),) for number in order)
            again, others = sieved(other, start)
            self.assertEqual(again, [told[number] for number in order])
            self.assertEqual(others, sorted((order.index(number), place) for number, place in lacks))


class LacksTest(SieveTest):
    def test_each_place_once(self):
        program = program_of(LN, "number", let("x", ("at", "l", "n"), ("tell", "x")))
        self.assertEqual(sieved(program, [])[1], [(0, 0)])
        self.assertEqual(sieved(program, [((), N1, 0)])[1], [(0, 0)])
        self.assertEqual(sieved(program, [(N1, LEN0, -1)])[1], [(0, 0)])
        self.assertEqual(sieved(program, [((), N1, 0), (N1, LEN0, -1)])[1], [])
        self.assertEqual(sieved(program, [((), N1, 0), (N1, LEN0, 0)])[1], [(0, 0)])

    def test_they_rise(self):
        called = (L, "number", let("x", ("head", "l"), "t", ("tail", "l"), "y", ("head", "t"), ("tell", "y")))
        tree = ("claim", ("len", "l"), (), 5, ("if", (), (), 0, let("x", ("call", 1, ("l",)), ("tell", "x")),
                                              let("y", ("call", 2, ("l",)), ("tell", "y"))))
        program = ((L, "number", tree), called, called)
        self.assertEqual(sieved(program, [])[1], [(0, 0), (1, 0), (1, 2)])
        program = ((L, "number", ("if", ("len", "l"), (), 5, tree[4][4], tree[4][5])), called, called)
        self.assertEqual(sieved(program, [])[1], [(1, 0), (1, 2), (2, 2)])

    def test_behind_what_can_not_be_nothing_lacks(self):
        """What a goal wants is known behind it, even where it can't be; so nothing more lacks there."""
        tree = let("e", ("nil",), "x", ("head", "e"), ("claim", (), (), -5, ("tell", "x")))
        self.assertEqual(sieved(program_of((), "number", tree), [])[1], [(0, 1)])

    def test_head_and_tail(self):
        for word, kind in (("head", "number"), ("tail", "list")):
            program = program_of(L, kind, let("x", (word, "l"), ("tell", "x")))
            self.assertEqual(sieved(program, [])[1], [(0, 0)])
            self.assertEqual(sieved(program, [((), LEN0, -1)])[1], [])

    def test_of_what_was_put(self):
        tree = let("m", ("put", "n", "l"), "t", ("tail", "m"), "x", ("head", "m"), "y", ("head", "t"), ("tell", "y"))
        self.assertEqual(sieved(program_of(LN, "number", tree), [])[1], [(0, 3)])
        tree = let("m", ("put", "n", "l"), "x", ("at", "m", "n"), ("tell", "x"))
        self.assertEqual(sieved(program_of(LN, "number", tree), [])[1], [(0, 1)])
        self.assertEqual(sieved(program_of(LN, "number", tree), [((), N1, 0), (N1, LEN0, 0)])[1], [])

    def test_claims(self):
        for first, second, n, start in ((("of", "n"), (), 3, (N1, (), 3)), ((), ("len", "l"), -2, ((), LEN0, -2)),
                                        (("len", "l"), ("of", "n"), 0, (LEN0, N1, 0))):
            program = program_of(LN, "number", ("claim", first, second, n, ("tell", "n")))
            self.assertEqual(sieved(program, [])[1], [(0, 0)])
            self.assertEqual(sieved(program, [start])[1], [])
            self.assertEqual(sieved(program, [start[:2] + (n - 1,)])[1], [])
            self.assertEqual(sieved(program, [start[:2] + (n + 1,)])[1], [(0, 0)])
        program = program_of(LN, "number", ("claim", (), ("len", "l"), 0, ("claim", (), (), 0, ("tell", "n"))))
        self.assertEqual(sieved(program, [])[1], [])
        self.assertEqual(sieved(program_of(LN, "number", ("claim", (), (), -1, ("tell", "n"))), [])[1], [(0, 0)])

    def test_by_what_stays_of_other_functions(self):
        least = (L, "number", let("x", ("len", "l"), "y", ("sum", "x", -1), ("tell", "y")))
        tree = let("i", ("call", 1, ("l",)), "x", ("at", "l", "i"), ("tell", "x"))
        program = ((L, "number", tree), least)
        self.assertEqual(sieved(program, [])[1], [(0, 1)])
        self.assertEqual(sieved(program, [((), LEN0, -1)])[1], [])
        self.assertEqual(sieved(program, [((), LEN0, -1)], numbers=(-1,))[1], [(0, 1)])
        self.assertEqual(sieved(program, [((), LEN0, -1)], numbers=(1,))[1], [(0, 1)])


class RunsTest(unittest.TestCase):
    WORTHS = {"number": (-2, -1, 0, 1, 3), "list": ((), (0,), (-3,), (1, 2), (0, -1, 0))}

    def so_on_runs(self, program, start):
        stays, lacks = sieved(program, start)
        calls = 0
        for args in itertools.product(*[self.WORTHS[kind] for _, kind in program[0][0]]):
            handed = [(len(worth), worth) if isinstance(worth, tuple) else worth for worth in args]
            if all(oracle.claim_is_true(claim, handed) for claim in start):
                end, begun = run(program, list(args), [])
                self.assertTrue(end[0] != "fault" or end[2:] in lacks)
                for function, handed, told in begun:
                    calls += 1
                    worths = [*handed] if told is None else [*handed, told]
                    things = [(len(worth), worth) if isinstance(worth, tuple) else worth for worth in worths]
                    ahead, behind = stays[function]
                    for claim in ahead if told is None else ahead + behind:
                        self.assertTrue(oracle.claim_is_true(claim, things))
        return calls

    def test_samples(self):
        for program, claims in ((COUNTDOWN, [((), N0, 0), (N0, (), 1)]), (EVEN, [(LEN0, (), 1), (EACH0, (), 0)]),
                                (COPY, [(EACH0, (), 0), ((), LEN0, -1)])):
            for start in ([], claims[:1], claims[1:], claims):
                self.assertGreater(self.so_on_runs(program, start), 1)

    def test_where_something_lacks(self):
        program = program_of(LN, "number", let("x", ("at", "l", "n"), "y", ("head", "l"), ("tell", "y")))
        self.assertGreater(self.so_on_runs(program, []), 1)
        self.assertGreater(self.so_on_runs(program, [((), N1, 0), (N1, LEN0, -1)]), 1)


class InterfaceTest(unittest.TestCase):
    def test_names_and_arguments(self):
        self.assertEqual(sieved.__module__, "claimsieve.sieve")
        self.assertEqual(str(inspect.signature(sieved)), "(program, start, *, numbers=(-1, 0, 1))")
        self.assertEqual(sieve.NUMBERS, (-1, 0, 1))

    def test_kinds_of_what_is_told(self):
        told = sieved(EVEN, [])
        self.assertEqual((type(told), [type(part) for part in told]), (tuple, [list, list]))
        for row in told[0]:
            self.assertEqual((type(row), [type(part) for part in row]), (tuple, [list, list]))
            self.assertEqual(row, (sorted(row[0]), sorted(row[1])))

    def test_what_is_told_may_be_changed_and_is_told_again(self):
        program, start = copy.deepcopy(COPY), [(EACH0, (), 0)]
        told = sieved(program, start)
        expected = copy.deepcopy(told)
        told[0][0][0].clear()
        told[0][1][1].clear()
        told[1].append(None)
        self.assertEqual(sieved(program, start), expected)
        self.assertEqual((program, start), (COPY, [(EACH0, (), 0)]))

    def test_numbers_left_out(self):
        self.assertEqual(sieved(COPY, []), sieved(COPY, [], numbers=(-1, 0, 1)))
        self.assertNotEqual(sieved(COPY, []), sieved(COPY, [], numbers=(0,)))


if __name__ == "__main__":
    unittest.main()
