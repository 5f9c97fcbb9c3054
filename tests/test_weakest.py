"""The weakest sets of wishes by which nothing lacks."""

import copy
import itertools
import unittest

from claimsieve.claims import candidates
from claimsieve.errors import BadNumbers, BadProgram, BadStart
from claimsieve.sieve import sieved
from claimsieve.weakest import weakest
from tests.generated import Dice, made_case
from tests.samples import COUNTDOWN, EVEN, let, program_of

L = (("l", "list"),)
LN = (("l", "list"), ("n", "number"))
N0, N1 = ("of", 0), ("of", 1)
LEN0, EACH0 = ("len", 0), ("each", 0)
HEAD = program_of(LN, "number", let("x", ("head", "l"), ("tell", "x")))
AT = program_of(LN, "number", let("x", ("at", "l", "n"), ("tell", "x")))
NEVER = program_of(L, "number", let("x", ("ask",), ("claim", ("of", "x"), (), 0, ("tell", "x"))))
FILLED, LOW, HIGH = ((), LEN0, -1), ((), N1, 0), (N1, LEN0, -1)


def by_hand(program, wishes, numbers):
    """All sets by which nothing lacks, without those that have such a set within them."""
    enough = []
    for many in range(len(wishes) + 1):
        for some in itertools.combinations(wishes, many):
            if sieved(program, list(some), numbers=numbers)[1] == []:
                enough.append(frozenset(some))
    least = [some for some in enough if not any(other < some for other in enough)]
    return sorted((tuple(sorted(some)) for some in least), key=lambda some: (len(some), some))


class WeakestTest(unittest.TestCase):
    def test_no_wishes(self):
        self.assertEqual(weakest(COUNTDOWN, []), [()])
        self.assertEqual(weakest(EVEN, []), [()])
        self.assertEqual(weakest(HEAD, []), [])

    def test_one(self):
        self.assertEqual(weakest(HEAD, [FILLED]), [(FILLED,)])
        self.assertEqual(weakest(HEAD, [LOW]), [])
        self.assertEqual(weakest(COUNTDOWN, [((), N0, 0)]), [()])

    def test_two(self):
        self.assertEqual(weakest(AT, [LOW, HIGH]), [(LOW, HIGH)])
        self.assertEqual(weakest(AT, [HIGH, LOW]), [(LOW, HIGH)])
        self.assertEqual(weakest(AT, [LOW, FILLED]), [])
        self.assertEqual(weakest(HEAD, [LOW, HIGH]), [(LOW, HIGH)])

    def test_three_and_four(self):
        self.assertEqual(weakest(AT, [LOW, HIGH, FILLED]), [(LOW, HIGH)])
        low = ((), N1, -3)
        self.assertEqual(weakest(AT, [LOW, HIGH, FILLED, low]), [(low, HIGH), (LOW, HIGH)])

    def test_wishes_that_imply_one_another(self):
        wishes = [((), LEN0, -n) for n in (3, 1, 0, 2)]
        self.assertEqual(weakest(HEAD, wishes), [(((), LEN0, -3),), (((), LEN0, -2),), (((), LEN0, -1),)])

    def test_none_is_needed(self):
        """The empty set alone, whatever is wished."""
        for wishes in ([((), N0, 0)], [(N0, (), -1), ((), N0, -1)], [((), N0, n) for n in range(4)]):
            self.assertEqual(weakest(COUNTDOWN, wishes), [()])

    def test_none_is_enough(self):
        wishes = [((), LEN0, -1), (EACH0, (), 0), ((), EACH0, 0), (LEN0, (), 5)]
        for many in range(5):
            self.assertEqual(weakest(NEVER, wishes[:many]), [])

    def test_wishes_that_can_not_both_be_are_enough(self):
        """Nothing is handed in of which both are true."""
        wishes = [(LEN0, (), 0), ((), LEN0, -1)]
        self.assertEqual(weakest(NEVER, wishes), [(((), LEN0, -1), (LEN0, (), 0))])

    def test_fewer_ahead_else_as_they_ascend(self):
        """By the length alone, or by a number that lies below it and above 0."""
        wishes = [(LOW[0], LOW[1], 0), HIGH, FILLED, (N1, LEN0, -2)]
        told = weakest(HEAD, wishes)
        self.assertEqual(told, [(FILLED,), (LOW, (N1, LEN0, -2)), (LOW, HIGH)])
        self.assertEqual(told, sorted(told, key=lambda some: (len(some), some)))

    def test_sets_of_three(self):
        """The list has an item if n has 2 at the least, which is less than m, which is at most the length."""
        program = program_of((*LN, ("m", "number")), "number", let("x", ("head", "l"), ("tell", "x")))
        chain = [((), N1, -2), (N1, ("of", 2), -1), (("of", 2), LEN0, 0)]
        self.assertEqual(weakest(program, chain), [tuple(sorted(chain))])
        self.assertEqual(weakest(program, [*chain, (("of", 2), LEN0, 1)]), [
            tuple(sorted([*chain[:2], last])) for last in ((("of", 2), LEN0, 0), (("of", 2), LEN0, 1))])
        for n, enough in ((3, True), (4, False)):
            chain = [((), N1, -2), (N1, ("of", 2), n), (("of", 2), LEN0, -2)]
            self.assertEqual(weakest(program, chain), [tuple(sorted(chain))] if enough else [])

    def test_the_order_in_which_wishes_are_handed_in_is_the_same(self):
        wishes = [LOW, HIGH, FILLED, (N1, LEN0, -2)]
        for program in (HEAD, AT):
            told = weakest(program, wishes)
            for some in itertools.permutations(wishes):
                self.assertEqual(weakest(program, list(some)), told)

    def test_each_set_is_a_rising_tuple(self):
        told = weakest(AT, [HIGH, LOW])
        self.assertEqual((type(told), [type(some) for some in told]), (list, [tuple]))
        for some in told:
            self.assertEqual(list(some), sorted(some))

    def test_by_numbers(self):
        least = (L, "number", let("x", ("len", "l"), "y", ("sum", "x", -1), ("tell", "y")))
        program = ((L, "number", let("i", ("call", 1, ("l",)), "x", ("at", "l", "i"), ("tell", "x"))), least)
        self.assertEqual(weakest(program, [FILLED]), [(FILLED,)])
        self.assertEqual(weakest(program, [FILLED], numbers=(-1, 0, 1)), [(FILLED,)])
        self.assertEqual(weakest(program, [FILLED], numbers=(0,)), [])

    def test_small_programs(self):
        counts = {}
        for number in range(300):
            program, _, numbers = made_case(number)
            dice = Dice(number + 700)
            lattice = candidates(program, 0, numbers=(-2, -1, 0, 1))[0]
            wishes = []
            for _ in range(dice.below(5)):
                claim = dice.one_of(lattice)
                if claim not in wishes:
                    wishes.append(claim)
            told = weakest(program, wishes, numbers=numbers)
            self.assertEqual(told, by_hand(program, wishes, numbers), number)
            counts[len(told)] = counts.get(len(told), 0) + 1
            for some in told:
                counts[("of", len(some))] = counts.get(("of", len(some)), 0) + 1
        for key in (0, 1, 2, ("of", 0), ("of", 1), ("of", 2)):
            self.assertGreater(counts[key], 0, counts)


class RefusalsTest(unittest.TestCase):
    def refused(self, refusal, *args, **more):
        with self.assertRaises(refusal) as caught:
            weakest(*args, **more)
        self.assertIs(type(caught.exception), refusal)

    def test_five(self):
        wishes = [((), N1, n) for n in range(5)]
        weakest(HEAD, wishes[:4])
        self.refused(BadStart, HEAD, wishes)
        self.refused(BadStart, HEAD, wishes + [((), N1, 9)])

    def test_alike(self):
        for wishes in ([FILLED, FILLED], [FILLED, LOW, ((), ("len", 0), -1)], [LOW, HIGH, FILLED, LOW]):
            self.refused(BadStart, HEAD, wishes)

    def test_what_start_can_not_be(self):
        for wishes in (None, True, 0, "", (), (FILLED,), {}, [None], [FILLED, ()], [[(), LEN0, -1]], [((), LEN0, 100)],
                       [((), LEN0, True)], [((), ("of", 0), 0)], [((), ("of", 2), 0)], [(N1, N1, 0)], [((), LEN0)]):
            with self.subTest(wishes):
                self.refused(BadStart, HEAD, wishes)

    def test_numbers(self):
        for numbers in (None, (), [0], (1, 0), (True,), (10,), 0):
            self.refused(BadNumbers, HEAD, [FILLED], numbers=numbers)

    def test_what_is_handed_in_first_is_refused_first(self):
        self.refused(BadProgram, None, None, numbers=None)
        self.refused(BadProgram, EVEN[:1], [FILLED] * 5, numbers=())
        self.refused(BadProgram, EVEN[:1], [])
        self.refused(BadStart, HEAD, [FILLED] * 2, numbers=())
        self.refused(BadStart, HEAD, [((), N1, n) for n in range(5)], numbers=())
        self.refused(BadNumbers, HEAD, [FILLED], numbers=())


class KeptTest(unittest.TestCase):
    def test_what_is_handed_in_stays(self):
        program, wishes = copy.deepcopy(AT), [HIGH, LOW]
        told = weakest(program, wishes)
        self.assertEqual((program, wishes), (AT, [HIGH, LOW]))
        wishes.append(FILLED)
        self.assertEqual(told, [(LOW, HIGH)])

    def test_what_is_told_may_be_changed_and_is_told_again(self):
        told = weakest(AT, [HIGH, LOW])
        told.clear()
        self.assertEqual(weakest(AT, [HIGH, LOW]), [(LOW, HIGH)])


if __name__ == "__main__":
    unittest.main()
