"""Papers that were changed, papers of other makers, and what is no paper."""

import copy
import inspect
import unittest

from claimsieve import checking
from claimsieve.checking import checked
from claimsieve.clauses import clauses
from claimsieve.errors import BadPaper
from claimsieve.papers import paper
from claimsieve.sieve import sieved
from tests.samples import COPY, COUNTDOWN, EVEN, let, program_of

N = (("n", "number"),)
L = (("l", "list"),)
LN = (("l", "list"), ("n", "number"))
N0, N1, N2 = ("of", 0), ("of", 1), ("of", 2)
LEN0, LEN1 = ("len", 0), ("len", 1)
EACH0, EACH1 = ("each", 0), ("each", 1)
ON = ("of", "n")
LEN, EACH = ("len", "l"), ("each", "l")
FIRST, SECOND = ("first",), ("second",)
# What can stand nowhere in a paper.
ODD = (None, True, False, "", "zz", [], ["l"], ("zz",), (None,), ((), (), (), ()))


def put_at(row, path, part):
    """A paper with another part at a path."""
    if not path:
        return part
    k = path[0]
    return row[:k] + (put_at(row[k], path[1:], part),) + row[k + 1:]


def paths(row):
    """The paths to all parts of a paper, each ahead of those in it."""
    found = [()]
    if isinstance(row, tuple):
        for k, part in enumerate(row):
            found.extend([(k, *path) for path in paths(part)])
    return found


class CheckingTest(unittest.TestCase):
    """A program, claims to start with and numbers, and what is checked of papers of them."""

    program = program_of(N, "number", ("tell", "n"))
    start = [(N0, (), 0)]
    numbers = (0,)

    def told(self, strikes, ends):
        return checked(self.program, self.start, (tuple(strikes), tuple(ends)), numbers=self.numbers)

    def made(self):
        return paper(self.program, self.start, numbers=self.numbers)


class NumbersTest(CheckingTest):
    """Of what is handed in, and told as it is: a paper that is written by hand."""

    WORLD = ((("n", -1),), ())
    STRIKES = ((0, ((), N0, 0), WORLD), (0, ((), N1, 0), WORLD))
    DENIAL = (ON, ON, -1)
    MOST = ("kept", (((), ((ON, (), 0), ((), ON, -1))),))
    SAME = ("kept", (((), (DENIAL,)),))
    ENDS = (MOST, SAME, MOST, SAME)

    def test_it_is_let_by(self):
        self.assertIsNone(self.told(self.STRIKES, self.ENDS))
        self.assertEqual(sieved(self.program, self.start, numbers=self.numbers)[0][0][1], [
            (N0, (), 0), (N0, N1, 0), (N1, (), 0), (N1, N0, 0)])

    def test_strikes_in_another_order_and_by_other_worlds(self):
        self.assertIsNone(self.told(self.STRIKES[::-1], self.ENDS))
        self.assertIsNone(self.told(((0, ((), N1, 0), ((("n", -10 ** 9),), ())), self.STRIKES[0]), self.ENDS))

    def test_a_world_that_keeps_the_claim_or_not_the_hypotheses(self):
        for n in (0, 1, 50):
            self.assertEqual(self.told((self.STRIKES[0], (0, ((), N1, 0), ((("n", n),), ()))), self.ENDS), ("strike", 1))

    def test_a_strike_left_out(self):
        self.assertEqual(self.told(self.STRIKES[1:], self.ENDS), ("end", 0))
        self.assertEqual(self.told(self.STRIKES[:1], self.ENDS), ("end", 0))
        self.assertEqual(self.told((), self.ENDS), ("end", 0))
        self.assertEqual(self.told(self.STRIKES[:1], (("lacks", self.WORLD), *self.ENDS)), ("end", 0))

    def test_a_strike_twice(self):
        first, second = self.STRIKES
        self.assertEqual(self.told((first, first, second), self.ENDS), ("strike", 1))
        self.assertEqual(self.told((first, second, first), self.ENDS), ("strike", 2))
        self.assertEqual(self.told((first, second, None), self.ENDS), ("strike", 2))

    def test_a_strike_too_much(self):
        for claim in ((N0, (), 0), (N1, N0, 0)):
            self.assertEqual(self.told((*self.STRIKES, (0, claim, self.WORLD)), self.ENDS), ("strike", 2))

    def test_of_another_clause(self):
        for number in (1, 2, -1, True, False, None, "0", (), (0,), [0]):
            self.assertEqual(self.told(((number, *self.STRIKES[0][1:]), self.STRIKES[1]), self.ENDS), ("strike", 0))

    def test_of_a_claim_that_is_not_there(self):
        for claim in (((), N0, -1), ((), N0, 1), ((), ("of", 2), 0), ((), ("of", True), 0), ((), ("of", False), 0),
                      ((), N0, False), ((), LEN0, 0), (N0, N0, 0), ((), (), 0), ((), N0), ((), N0, 0, 0),
                      [(), N0, 0], ((), ["of", 0], 0), ([], N0, 0), None, (), "claim", (None, N0, 0), ((), N0, None)):
            with self.subTest(claim):
                self.assertEqual(self.told((self.STRIKES[1], (0, claim, self.WORLD)), self.ENDS), ("strike", 1))

    def test_worlds_that_are_none(self):
        for world in (((), ()), ((("n", -1), ("n", -1)), ()), ((("n", -1), ("o", 0)), ()), ((("m", -1),), ()),
                      ((("n", -1),), (("l", 0, ()),)), ((("n",),), ()), ((("n", -1, 0),), ()), ((("n", True),), ()),
                      ((("n", None),), ()), ((("n", "-1"),), ()), ((["n", -1],), ()), ([("n", -1)], ()),
                      ((("n", -1),), []), ((("n", -1),),), ((("n", -1),), (), ()), ("n", -1), (("n", -1), ()), None):
            with self.subTest(world):
                self.assertEqual(self.told(((0, ((), N0, 0), world), self.STRIKES[1]), self.ENDS), ("strike", 0))

    def test_ends_left_out_and_too_much(self):
        self.assertEqual(self.told(self.STRIKES, self.ENDS[:3]), ("end", 3))
        self.assertEqual(self.told(self.STRIKES, self.ENDS[1:]), ("end", 0))
        self.assertEqual(self.told(self.STRIKES, ()), ("end", 0))
        for end in (self.MOST, self.SAME, None, ()):
            self.assertEqual(self.told(self.STRIKES, (*self.ENDS, end)), ("end", 4))
            self.assertEqual(self.told(self.STRIKES, (*self.ENDS, end, end)), ("end", 4))

    def test_ends_exchanged(self):
        self.assertEqual(self.told(self.STRIKES, (self.SAME, self.MOST, self.MOST, self.SAME)), ("end", 0))
        self.assertEqual(self.told(self.STRIKES, (self.MOST, self.MOST, self.MOST, self.SAME)), ("end", 1))
        self.assertEqual(self.told(self.STRIKES, (self.MOST, self.SAME, self.SAME, self.MOST)), ("end", 2))

    def test_lacks_is_for_most_alone(self):
        for k in range(4):
            ends = self.ENDS[:k] + (("lacks", self.WORLD),) + self.ENDS[k + 1:]
            self.assertEqual(self.told(self.STRIKES, ends), ("end", k))

    def test_cases_left_out_and_too_much(self):
        case = self.SAME[1][0]
        for cases in ((), (case, case), (case, None), case, None, [case]):
            self.assertEqual(self.told(self.STRIKES, (self.MOST, ("kept", cases), self.MOST, self.SAME)), ("end", 1))

    def ring_told(self, *ring):
        """Of a ring for what is told to be at most 0."""
        return self.told(self.STRIKES, (*self.ENDS[:2], ("kept", (((), ring),)), self.SAME))

    def test_rings(self):
        known, denial = (ON, (), 0), ((), ON, -1)
        self.assertIsNone(self.ring_told(known, denial))
        self.assertIsNone(self.ring_told(denial, known))
        self.assertIsNone(self.ring_told(known, denial, known, denial))
        for ring in ((), (known,), (denial,), (known, known), (denial, denial), (known, denial, known),
                     (denial, denial, known), (known, denial, denial), (((), ON, 0), (ON, (), -1)),
                     (((), ON, -1), ((), ON, -1)), (known, ((), ON, 0)), (known, ((), ON, -2)), ((ON, (), -1), denial),
                     ((ON, (), 1), denial), (known, ((), ON, True)), (((), (), -1),), ((ON, ON, -1),),
                     (known, denial, None), (known, ((), ON)), (known, ((), ON, -1, 0)), (known, [(), ON, -1]),
                     (known, ((), ["of", "n"], -1)), ((("of", "m"), (), 0), ((), ("of", "m"), -1)),
                     ((("len", "n"), (), 0), ((), ("len", "n"), -1)), ((FIRST, (), 0), ((), FIRST, -1))):
            with self.subTest(ring):
                self.assertEqual(self.ring_told(*ring), ("end", 2))

    def test_a_ring_of_what_is_known_but_comes_to_0(self):
        """By two claims to start with, n is 0: a ring of them without the denial shows nothing."""
        start = [(N0, (), 0), ((), N0, 0)]
        made = paper(self.program, start, numbers=(0,))
        self.assertIsNone(checked(self.program, start, made, numbers=(0,)))
        ring = ((ON, (), 0), ((), ON, 0))
        ends = (("kept", (((), ring),)), *made[1][1:])
        self.assertEqual(checked(self.program, start, (made[0], ends), numbers=(0,)), ("end", 0))

    def test_a_ring_without_the_denial(self):
        start = [(N0, (), -1), ((), N0, 0)]
        ring = ((ON, (), -1), ((), ON, 0))
        end = ("kept", (((), ring),))
        self.assertIsNone(checked(self.program, start, ((), (end,) * 6), numbers=(0,)))
        self.assertEqual(checked(self.program, start[:1], ((), (end,) * 6), numbers=(0,)), ("end", 0))

    def test_links_are_of_claims_that_stand(self):
        """A claim that was struck is no link any more, and a weaker one is none either."""
        self.assertEqual(checked(self.program, [], (self.STRIKES, self.ENDS), numbers=(0,)), ("end", 0))
        ring = ((ON, (), 1), ((), ON, -2))
        ends = (("kept", (((), ring),)),)
        self.assertEqual(checked(self.program, self.start, (self.strikes_of_one(), ends), numbers=(1,)), ("end", 0))

    def strikes_of_one(self):
        return tuple((0, claim, ((("n", -2),), ())) for claim in (((), N0, 1), ((), N1, 1)))

    def test_worlds_keep_start(self):
        world = ((("n", 1),), ())
        program = ((N, "number", let("x", ("num", 0), ("tell", "x"))),)
        strike = (0, (N0, (), 0), ((("n", 1), ("x", 0)), ()))
        self.assertEqual(checked(program, [(N0, (), 0)], ((strike,), ()), numbers=(0,)), ("strike", 0))
        self.assertEqual(checked(program, [], ((strike,), ()), numbers=(0,)), ("end", 0))
        self.assertEqual(checked(program, [], (((0, (N0, (), 0), world),), ()), numbers=(0,)), ("strike", 0))


class OrderTest(CheckingTest):
    """Function 1 hands on what it is handed, so its claims are struck behind those of function 0's clause."""

    program = ((N, "number", let("x", ("call", 1, ("n",)), ("tell", "x"))),
               (N, "number", let("y", ("call", 2, ("n",)), ("tell", "y"))),
               (N, "number", ("tell", "n")))
    start = []

    def test_strikes_in_turn(self):
        strikes, ends = self.made()
        self.assertIsNone(self.told(strikes, ends))
        rows = clauses(self.program)
        first = [strike for strike in strikes if rows[strike[0]][4][:2] == ("ahead", 1)]
        second = [strike for strike in strikes if rows[strike[0]][4][:2] == ("ahead", 2)]
        rest = [strike for strike in strikes if strike not in first + second]
        self.assertIsNone(self.told(first + second + rest, ends))
        self.assertEqual(self.told(second + first + rest, ends), ("strike", 0))
        self.assertEqual(self.told(rest + first + second, ends), ("strike", 0))
        self.assertEqual(self.told(first[1:] + second + first[:1] + rest, ends), ("strike", len(first) - 1))

    def test_a_strike_of_another_clause_that_wants_the_same(self):
        strikes, ends = self.made()
        for number in range(len(clauses(self.program))):
            if number != strikes[0][0]:
                changed = ((number, *strikes[0][1:]), *strikes[1:])
                self.assertEqual(self.told(changed, ends), ("strike", 0))

    def test_of_a_goal_most(self):
        program = program_of(N, "number", ("claim", ON, (), 0, ("tell", "n")))
        strike = (0, (N0, (), 0), ((("n", 1),), ()))
        self.assertEqual(checked(program, [], ((strike,), ()), numbers=(0,)), ("strike", 0))


class LackingTest(CheckingTest):
    program = program_of(LN, "number", let("x", ("head", "l"), ("claim", ON, (), 0, ("tell", "n"))))
    start = [((), N1, 0)]
    EMPTY = ((("n", 0),), (("l", 0, ()),))

    def first_ends_told(self, first, second):
        strikes, ends = self.made()
        return self.told(strikes, (first, second, *ends[2:]))

    def test_worlds_of_goals_that_lack(self):
        one = ((("n", 1), ("x", 7)), (("l", 1, (7,)),))
        self.assertIsNone(self.first_ends_told(("lacks", self.EMPTY), ("lacks", one)))
        many = ((("n", 5), ("x", 7)), (("l", 9, (-3, 7, 8)),))
        self.assertIsNone(self.first_ends_told(("lacks", ((("n", 9),), (("l", 0, ()),))), ("lacks", many)))
        for first in (((("n", -1),), (("l", 0, ()),)), ((("n", 0),), (("l", 1, (0,)),)), one, None,
                      ((("n", 0),), (("l", 0, (0,)),)), ((("n", 0),), (("l", 1, ()),)), ((("n", 0),), ())):
            self.assertEqual(self.first_ends_told(("lacks", first), ("lacks", one)), ("end", 0))
        for second in (((("n", 0), ("x", 7)), (("l", 1, (7,)),)), ((("n", 1), ("x", 7)), (("l", 1, (6,)),)),
                       ((("n", 1), ("x", 7)), (("l", 0, ()),)), ((("n", 1), ("x", 7)), (("l", 0, (7,)),)),
                       ((("n", 1), ("x", 7)), (("l", 2, (7, 7)),)), ((("n", 1), ("x", 7)), (("l", 2, (8, 7)),)),
                       ((("n", 1), ("x", 7)), (("l", 1, [7]),)), ((("n", 1), ("x", 7)), (("l", True, (7,)),)),
                       ((("n", 1), ("x", 1)), (("l", 1, (True,)),)), ((("x", 7), ("n", 1)), (("l", 1, (7,)),)),
                       ((("n", 1), ("x", 7)), (("l", -1, (7,)),)), ((("n", 1), ("x", 7)), (("m", 1, (7,)),)),
                       ((("n", 1), ("x", 7)), (("l", 1),)), ((("n", 1), ("x", 7)), (("l", 1, (7,)), ("l", 1, (7,)))),
                       ((("n", 1),), (("l", 1, (7,)),))):
            with self.subTest(second):
                self.assertEqual(self.first_ends_told(("lacks", self.EMPTY), ("lacks", second)), ("end", 1))

    def test_a_goal_that_lacks_is_not_kept(self):
        ring = (((), LEN, 0), (LEN, (), -1))
        for rings in ((), (((), ring),), (((), (((), LEN, -1), (LEN, (), 0))),)):
            self.assertEqual(self.first_ends_told(("kept", rings), ("kept", rings)), ("end", 0))
        self.assertEqual(self.first_ends_told(("lack", self.EMPTY), ("lacks", self.EMPTY)), ("end", 0))

    def test_a_goal_that_is_kept_does_not_lack(self):
        start = [((), N1, 0), ((), LEN0, -1), (N1, (), 0)]
        strikes, ends = paper(self.program, start, numbers=(0,))
        self.assertEqual([end[0] for end in ends[:2]], ["kept", "kept"])
        for world in (self.EMPTY, ((("n", 0),), (("l", 1, (0,)),))):
            told = checked(self.program, start, (strikes, (("lacks", world), *ends[1:])), numbers=(0,))
            self.assertEqual(told, ("end", 0))


class ItemsTest(CheckingTest):
    """n is at most each item of l, which are at most 0, and l has one."""

    program = program_of(LN, "number", ("tell", "n"))
    start = [((), LEN0, -1), (N1, EACH0, 0), (EACH0, (), 0)]
    ROW = ("l", (((), LEN, -1),))
    RING = ((ON, EACH, 0), (EACH, (), 0), ((), ON, -1))

    def setUp(self):
        self.strikes, self.ends = self.made()
        stays, _ = sieved(self.program, self.start, numbers=self.numbers)
        self.place = stays[0][1].index((N2, (), 0))

    def case_told(self, lists, ring):
        changed = self.ends[:self.place] + (("kept", ((lists, ring),)),) + self.ends[self.place + 1:]
        told = self.told(self.strikes, changed)
        self.assertIn(told, (None, ("end", self.place)))
        return told is None

    def test_it_is_let_by(self):
        self.assertTrue(self.case_told((self.ROW,), self.RING))

    def test_rows_that_are_not_wanted_and_the_same_once_more(self):
        self.assertTrue(self.case_told((self.ROW, self.ROW), self.RING))

    def test_items_without_their_row(self):
        self.assertFalse(self.case_told((), self.RING))

    def test_items_ahead_of_their_row(self):
        """By an item of l, l has one: that is shown by what is to be shown."""
        chain = (((), ON, -1), (ON, EACH, 0), (EACH, (), 0), ((), LEN, -1))
        self.assertFalse(self.case_told((("l", chain),), self.RING))
        self.assertTrue(self.case_told((self.ROW, ("l", chain)), self.RING))

    def test_rows(self):
        self.assertFalse(self.case_told((("l", ((ON, EACH, 0), (EACH, (), 0), ((), LEN, -1))),), self.RING))
        for row in (("l", ()), ("l", (((), LEN, 0),)), ("l", (((), LEN, -2),)), ("l", ((LEN, (), -1),)),
                    ("l", (((), ON, -1),)), ("l", (((), LEN, -1), ((), LEN, -1))), ("n", (((), LEN, -1),)),
                    ("m", (((), LEN, -1),)), ("l",), ("l", (((), LEN, -1),), ()), ["l", (((), LEN, -1),)],
                    (["l"], (((), LEN, -1),)), (None, (((), LEN, -1),)), ("l", None), ("l", [((), LEN, -1)]), None,
                    (("l",), (((), LEN, -1),)), ("l", (((), LEN, True),))):
            with self.subTest(row):
                self.assertFalse(self.case_told((row,), self.RING))
        for lists in (None, [self.ROW], self.ROW, "l", {}):
            self.assertFalse(self.case_told(lists, self.RING))

    def test_rings(self):
        denial = ((), ON, -1)
        for ring in (self.RING[::-1], self.RING[:2], self.RING[1:], self.RING[:1] + self.RING[2:],
                     ((ON, ("each", "m"), 0), (("each", "m"), (), 0), denial), (*self.RING, (LEN, LEN, 0)),
                     ((EACH, ON, 0), ((), EACH, 0), (ON, (), -1)), ((ON, EACH, -1), (EACH, (), 0), denial),
                     ((ON, EACH, 1), (EACH, (), 0), denial), ((ON, FIRST, 0), (FIRST, (), 0), denial),
                     ((ON, ("each",), 0), (("each",), (), 0), denial), ((ON, (), 0), denial)):
            with self.subTest(ring):
                self.assertFalse(self.case_told((self.ROW,), ring))
        self.assertTrue(self.case_told((self.ROW,), self.RING[1:] + self.RING[:1]))

    def test_a_row_begins_with_0(self):
        start = [(N1, LEN0, -1), (N1, EACH0, 0), (EACH0, (), 0), ((), N1, 0)]
        made = paper(self.program, start, numbers=(0,))
        self.assertIsNone(checked(self.program, start, made, numbers=(0,)))
        place = sieved(self.program, start, numbers=(0,))[0][0][1].index((N2, (), 0))
        for chain, told in (((((), ON, 0), (ON, LEN, -1)), None), (((ON, LEN, -1),), ("end", place))):
            end = ("kept", ((((("l", chain),)), self.RING),))
            changed = made[1][:place] + (end,) + made[1][place + 1:]
            self.assertEqual(checked(self.program, start, (made[0], changed), numbers=(0,)), told)

    def test_a_length_is_1_at_the_least_by_one(self):
        program = program_of(LN, "number", let("x", ("at", "l", "n"), ("claim", (), LEN, -1, ("tell", "x"))))
        strikes, ends = paper(program, [], numbers=(0,))
        for ring, told in (((((), LEN, -1), (LEN, (), 0)), None), ((((), LEN, -2), (LEN, (), 0)), ("end", 2)),
                           ((((), ON, 0), (ON, LEN, -1), (LEN, (), 0)), None)):
            changed = (*ends[:2], ("kept", (((), ring),)), *ends[3:])
            self.assertEqual(checked(program, [], (strikes, changed), numbers=(0,)), told)

    def test_a_length_is_1_at_the_least_only_if_an_item_of_it_is_told_of(self):
        program = program_of(L, "number", let("x", ("len", "l"), ("tell", "x")))
        strikes, ends = paper(program, [], numbers=(-1, 0))
        stays, _ = sieved(program, [], numbers=(-1, 0))
        self.assertNotIn(((), LEN0, -1), stays[0][1])
        place = stays[0][1].index(((), LEN0, 0))
        for n, told in ((0, None), (-1, ("end", place)), (1, ("end", place))):
            end = ("kept", (((), (((), LEN, n), (LEN, (), -1))),))
            changed = ends[:place] + (end,) + ends[place + 1:]
            self.assertEqual(checked(program, [], (strikes, changed), numbers=(-1, 0)), told)
        # An item of a part is an item of the list, but the length is told by the part's.
        tree = let("t", ("tail", "l"), "x", ("head", "t"), ("claim", (), LEN, -1, ("tell", "x")))
        program = program_of(L, "number", tree)
        strikes, ends = paper(program, [], numbers=(0,))
        place = [clause[1] for clause in clauses(program) if clause[4][0] == "most"].index(2)
        for ring, told in (((((), LEN, -1), (LEN, (), 0)), None), ((((), LEN, 0), (LEN, (), 0)), ("end", place))):
            changed = ends[:place] + (("kept", (((), ring),)),) + ends[place + 1:]
            self.assertEqual(checked(program, [], (strikes, changed), numbers=(0,)), told)
        part = ("len", "t")
        for chain, told in (((((), part, -1), (part, LEN, -1)), None), ((((), part, 0), (part, LEN, -1)), None),
                            ((((), part, -2), (part, LEN, -1)), ("end", place))):
            changed = ends[:place] + (("kept", (((), (*chain, (LEN, (), 0))),)),) + ends[place + 1:]
            self.assertEqual(checked(program, [], (strikes, changed), numbers=(0,)), told)


class WorldsTest(unittest.TestCase):
    """A world is to keep each kind of hypothesis; here one of all kinds but "most", by which n is told."""

    LESS = ("if", ON, (), 0, ("tell", "n"), ("claim", (), LEN, -1, ("tell", "n")))
    PROGRAM = (
        (LN, "number", let("m", ("put", "n", "l"), "t", ("tail", "l"), "x", ("head", "l"), "e", ("nil",),
                           "y", ("call", 1, ("l", "n")), ("tell", "y"))),
        (LN, "number", LESS))
    NUMBERS = (("n", 1), ("x", 5), ("y", 1))
    LISTS = (("e", 0, ()), ("l", 2, (4, 5)), ("m", 3, (1, 4, 5)), ("t", 1, (4,)))

    def setUp(self):
        strikes, _ = paper(self.PROGRAM, [], numbers=(0,))
        self.number = [clause[4] for clause in clauses(self.PROGRAM)].index(("behind", 0, ("l", "n"), "y"))
        self.others = [strike for strike in strikes if strike[0] != self.number]

    def told(self, numbers, lists):
        """Whether a strike by this world is so, where all other clauses' strikes stand ahead of it."""
        strike = (self.number, (N2, (), 0), (numbers, lists))
        told = checked(self.PROGRAM, [], ((*self.others, strike), ()), numbers=(0,))
        self.assertIn(told, (("strike", len(self.others)), ("end", 0)))
        return told == ("end", 0)

    def list_told(self, name, count, items):
        return self.told(self.NUMBERS, tuple((name, count, items) if row[0] == name else row for row in self.LISTS))

    def number_told(self, name, n):
        return self.told(tuple((name, n) if row[0] == name else row for row in self.NUMBERS), self.LISTS)

    def test_all_are_kept(self):
        self.assertTrue(self.told(self.NUMBERS, self.LISTS))

    def test_none(self):
        self.assertFalse(self.list_told("e", 1, (4,)))

    def test_made(self):
        for count, items in ((2, (1, 4, 5)), (4, (1, 4, 5)), (3, (4, 5)), (3, (1, 4)), (3, (1, 4, 5, 6)), (3, (1,))):
            self.assertFalse(self.list_told("m", count, items))

    def test_part(self):
        for count, items in ((2, (4,)), (0, ()), (1, (3,)), (1, (3, 4)), (1, (1,)), (1, (6,))):
            self.assertFalse(self.list_told("t", count, items))
        for items in ((5,), (4, 5)):
            self.assertTrue(self.list_told("t", 1, items))

    def test_one(self):
        for n in (1, 3, 6):
            self.assertFalse(self.number_told("x", n))
        self.assertTrue(self.number_told("x", 4))

    def test_behind(self):
        for n in (0, 2, 3):
            self.assertFalse(self.number_told("y", n))

    def test_most(self):
        program = program_of(N, "number", ("if", ON, (), -3, ("tell", "n"), let("x", ("num", -9), ("tell", "x"))))
        for n, told in ((-3, ("end", 0)), (-4, ("end", 0)), (-2, ("strike", 0)), (-1, ("strike", 0))):
            strike = (0, ((), N1, 0), ((("n", n),), ()))
            self.assertEqual(checked(program, [], ((strike,), ()), numbers=(0,)), told)

    def test_lengths_are_not_below_0(self):
        program = program_of(L, "list", ("tell", "l"))
        for world in (((), (("l", -1, (0,)),)), ((), (("l", -1, ()),))):
            strike = (0, ((), LEN0, 0), world)
            self.assertEqual(checked(program, [], ((strike,), ()), numbers=(0,)), ("strike", 0))


class EachTest(CheckingTest):
    """Items that are denied: of a list, of its part, of what was put."""

    numbers = (0,)

    def end_told(self, program, start, claim, cases):
        strikes, ends = paper(program, start, numbers=self.numbers)
        (_, behind), = sieved(program, start, numbers=self.numbers)[0]
        most = sum(1 for clause in clauses(program) if clause[4][0] == "most")
        place = most + behind.index(claim)
        self.assertEqual(ends[place][0], "kept")
        changed = ends[:place] + (("kept", cases),) + ends[place + 1:]
        told = checked(program, start, (strikes, changed), numbers=self.numbers)
        self.assertIn(told, (None, ("end", place)))
        return told is None

    def test_some_item_of_a_list(self):
        program = program_of(L, "list", ("tell", "l"))
        start = [(EACH0, (), 0)]
        known, denial = (FIRST, (), 0), ((), FIRST, -1)
        row = ("l", (((), LEN, -1),))
        self.assertTrue(self.end_told(program, start, (EACH1, (), 0), (((), (known, denial)),)))
        self.assertTrue(self.end_told(program, start, (EACH1, (), 0), (((row,), (known, denial)),)))
        for ring in (((EACH, (), 0), ((), EACH, -1)), ((EACH, (), 0), denial), ((SECOND, (), 0), ((), SECOND, -1)),
                     (known, ((), FIRST, 0)), (((), FIRST, -1), (FIRST, (), -1))):
            for lists in ((), (row,)):
                self.assertFalse(self.end_told(program, start, (EACH1, (), 0), ((lists, ring),)))

    def test_the_second_one(self):
        program = program_of(L, "list", ("tell", "l"))
        start = [((), EACH0, 0)]
        known, denial = ((), SECOND, 0), (SECOND, (), -1)
        self.assertTrue(self.end_told(program, start, ((), EACH1, 0), (((), (known, denial)),)))
        ring = (((), FIRST, 0), (FIRST, (), -1))
        self.assertFalse(self.end_told(program, start, ((), EACH1, 0), (((), ring),)))

    def test_items_of_two_lists(self):
        program = program_of(L, "list", ("tell", "l"))
        start = [(EACH0, (), 0), ((), EACH0, 0)]
        ring = ((FIRST, (), 0), ((), SECOND, 0), (SECOND, FIRST, -1))
        self.assertTrue(self.end_told(program, start, (EACH0, EACH1, 0), (((), ring),)))
        turned = ((SECOND, (), 0), ((), FIRST, 0), (FIRST, SECOND, -1))
        self.assertFalse(self.end_told(program, start, (EACH0, EACH1, 0), (((), turned),)))

    def test_an_item_of_a_part_is_an_item_of_the_list_but_not_the_other_way_about(self):
        program = program_of(L, "list", let("t", ("tail", "l"), ("tell", "t")))
        start = [(EACH0, (), 0)]
        ring = ((FIRST, (), 0), ((), FIRST, -1))
        self.assertTrue(self.end_told(program, start, (EACH1, (), 0), (((), ring),)))
        part = ("each", "t")
        row = ("t", (((), ("len", "t"), -1),))
        self.assertTrue(self.end_told(program, start, (EACH1, (), 0), (((row,), ((FIRST, (), 0), ((), FIRST, -1))),)))
        self.assertFalse(self.end_told(program, start, (EACH1, (), 0), (((row,), ((part, (), 0), ((), FIRST, -1))),)))

    def test_what_was_put(self):
        program = program_of(LN, "list", let("m", ("put", "n", "l"), ("tell", "m")))
        start = [(EACH0, (), 0), (N1, (), 0)]
        number = ((), ((ON, (), 0), ((), ON, -1)))
        rest = ((), ((FIRST, (), 0), ((), FIRST, -1)))
        claim = (("each", 2), (), 0)
        self.assertTrue(self.end_told(program, start, claim, (number, rest)))
        for cases in ((rest, number), (number,), (rest,), (), (number, rest, rest), (number, number), (rest, rest)):
            self.assertFalse(self.end_told(program, start, claim, cases))

    def test_what_was_put_has_no_row_and_no_item_of_its_own(self):
        program = program_of(LN, "list", let("m", ("put", "n", "l"), ("tell", "m")))
        start = [(EACH0, (), 0), (N1, (), 0)]
        number = ((), ((ON, (), 0), ((), ON, -1)))
        ring = ((FIRST, (), 0), ((), FIRST, -1))
        chain = (((), LEN, 0), (LEN, ("len", "m"), -1))
        claim = (("each", 2), (), 0)
        self.assertFalse(self.end_told(program, start, claim, (number, ((("m", chain),), ring))))
        own = ((("each", "m"), (), 0), ((), ("each", "m"), -1))
        self.assertFalse(self.end_told(program, start, claim, (number, ((("m", chain),), own))))
        self.assertFalse(self.end_told(program, start, claim, (number, ((), own))))
        length = ((), ("len", 2), 0)
        for shown in (chain, (((), ("len", "m"), 0),)):
            self.assertTrue(self.end_told(program, start, length, (((), (*shown, (("len", "m"), (), -1))),)))
        for shown in ((((), ("len", "m"), -1),), (((), ("len", "m"), -2),), (((), ("len", "m"), 1),),
                      (((), LEN, -1), *chain[1:])):
            self.assertFalse(self.end_told(program, start, length, (((), (*shown, (("len", "m"), (), -1))),)))


class ChangedTest(unittest.TestCase):
    """Papers that were made, and changed part by part."""

    PUT = program_of(LN, "list", let("m", ("put", "n", "l"), "k", ("put", "n", "m"), "t", ("tail", "l"), ("tell", "k")))
    CASES = (
        (COUNTDOWN, [((), N0, 0)], (0,)), (EVEN, [(EACH0, (), 0)], (0,)), (COPY, [(EACH0, (), 0), ((), LEN0, -1)], (0,)),
        (PUT, [(EACH0, (), 0), (N1, (), -1)], (0,)), (PUT, [], (-1,)),
        (ItemsTest.program, ItemsTest.start, (0,)), (LackingTest.program, LackingTest.start, (0,)),
    )

    def setUp(self):
        self.papers = [(*case, paper(*case[:2], numbers=case[2])) for case in self.CASES]

    def test_odd_kinds_in_the_place_of_each_part(self):
        looked = 0
        for program, start, numbers, made in self.papers:
            for path in paths(made):
                if len(path) >= 2:
                    expected = ("strike" if path[0] == 0 else "end", path[1])
                    for odd in (ODD[looked % len(ODD)], ODD[(looked * 3 + 1) % len(ODD)]):
                        changed = put_at(made, path, odd)
                        self.assertEqual(checked(program, start, changed, numbers=numbers), expected, (path, odd))
                        looked += 1
        self.assertGreater(looked, 5000)

    def test_a_strike_left_out_or_twice(self):
        for program, start, numbers, (strikes, ends) in self.papers:
            for k, strike in enumerate(strikes):
                told = checked(program, start, (strikes[:k] + strikes[k + 1:], ends), numbers=numbers)
                self.assertIsNotNone(told)
                self.assertTrue(told[0] == "end" or told[1] >= k)
                twice = (*strikes[:k], strike, *strikes[k:])
                self.assertEqual(checked(program, start, (twice, ends), numbers=numbers), ("strike", k + 1))

    def test_an_end_left_out_or_too_much(self):
        for program, start, numbers, (strikes, ends) in self.papers:
            for k, end in enumerate(ends):
                word, place = checked(program, start, (strikes, ends[:k] + ends[k + 1:]), numbers=numbers)
                self.assertTrue(word == "end" and k <= place < len(ends))
                self.assertEqual(checked(program, start, (strikes, ends[:k]), numbers=numbers), ("end", k))
                told = checked(program, start, (strikes, (*ends, end)), numbers=numbers)
                self.assertEqual(told, ("end", len(ends)))

    def chains(self, ends):
        """The path to each chain of the ends, from the ends on, and whether it is a ring."""
        for k, (word, cases) in enumerate(ends):
            if word == "kept":
                for at, (lists, _) in enumerate(cases):
                    yield (k, 1, at, 1), True
                    for row in range(len(lists)):
                        yield (k, 1, at, 0, row, 1), False

    def part_at(self, row, path):
        for k in path:
            row = row[k]
        return row

    def test_chains_that_were_changed(self):
        looked = 0
        for program, start, numbers, (strikes, ends) in self.papers:
            for path, is_ring in self.chains(ends):
                chain = self.part_at(ends, path)
                for changed in self.changed(chain):
                    told = checked(program, start, (strikes, put_at(ends, path, changed)), numbers=numbers)
                    self.assertEqual(told, ("end", path[0]), (chain, changed))
                    looked += 1
                turned = chain[1:] + chain[:1]
                told = checked(program, start, (strikes, put_at(ends, path, turned)), numbers=numbers)
                self.assertEqual(told is None, is_ring or len(chain) == 1)
        self.assertGreater(looked, 1000)

    def changed(self, chain):
        """Of a chain, without a link, with one of another number, one turned about, one put in, one elsewhere."""
        yield ()
        for k, (term, other, n) in enumerate(chain):
            yield chain[:k] + chain[k + 1:]
            for other_n in (n + 7, n - 7):
                yield (*chain[:k], (term, other, other_n), *chain[k + 1:])
            if term != other:
                yield (*chain[:k], (other, term, n), *chain[k + 1:])
                yield (*chain[:k], (term, other, n), *chain[k:])
            yield (*chain[:k], (term, other, n), (other, other, -1), *chain[k + 1:]) if term != other else ()
            yield (*chain[:k], (("of", "zz"), other, n), *chain[k + 1:])
            yield (*chain[:k], (term, ("len", "zz"), n), *chain[k + 1:])

    def test_a_case_left_out(self):
        for program, start, numbers, (strikes, ends) in self.papers:
            for k, (word, cases) in enumerate(ends):
                if word == "kept":
                    for at in range(len(cases)):
                        changed = put_at(ends, (k, 1), cases[:at] + cases[at + 1:])
                        self.assertEqual(checked(program, start, (strikes, changed), numbers=numbers), ("end", k))
                    changed = put_at(ends, (k, 1), (*cases, cases[0]))
                    self.assertEqual(checked(program, start, (strikes, changed), numbers=numbers), ("end", k))

    def test_rows_left_out(self):
        looked = 0
        for program, start, numbers, (strikes, ends) in self.papers:
            for k, (word, cases) in enumerate(ends):
                for at in range(len(cases) if word == "kept" else 0):
                    if cases[at][0]:
                        changed = put_at(ends, (k, 1, at, 0), cases[at][0][1:])
                        self.assertEqual(checked(program, start, (strikes, changed), numbers=numbers), ("end", k))
                        looked += 1
        self.assertGreater(looked, 0)


class BadPaperTest(unittest.TestCase):
    def test_no_tuple_of_two_tuples(self):
        for wrong in (None, True, 0, "", "ab", (), [], {}, ((),), ((), (), ()), [(), ()], ([], ()), ((), []), (None, ()),
                      ((), None), ("", ""), ("strikes", "ends"), ((), {}), (0, 1)):
            with self.subTest(wrong), self.assertRaises(BadPaper) as caught:
                checked(COUNTDOWN, [], wrong)
            self.assertIs(type(caught.exception), BadPaper)

    def test_two_tuples_are_never_refused(self):
        for rows in ((), (None,), ((),), ("",), (0, 1), ([],), (((), (), ()),), ((0, 0, 0),), ((None, None),)):
            told = checked(COUNTDOWN, [], (rows, ()))
            self.assertEqual(told, ("strike", 0) if rows else ("end", 0))
            self.assertEqual(checked(COUNTDOWN, [], ((), rows)), ("end", 0))


class InterfaceTest(unittest.TestCase):
    def test_names_and_arguments(self):
        self.assertEqual(checked.__module__, "claimsieve.checking")
        self.assertEqual(str(inspect.signature(checked)), "(program, start, paper, *, numbers=(-1, 0, 1))")
        self.assertEqual(checking.NUMBERS, (-1, 0, 1))

    def test_a_paper_is_of_its_numbers(self):
        made = paper(COPY, [], numbers=(0, 1))
        self.assertIsNone(checked(COPY, [], made, numbers=(0, 1)))
        self.assertIsNotNone(checked(COPY, [], made))
        self.assertIsNone(checked(COPY, [], paper(COPY, [])))

    def test_nothing_handed_in_is_changed_and_the_same_is_told_again(self):
        made = paper(COPY, [])
        wrong = (made[0][1:], made[1])
        first = copy.deepcopy((COPY, wrong))
        told = checked(COPY, [], wrong)
        self.assertEqual(checked(COPY, [], wrong), told)
        self.assertEqual((COPY, wrong), first)
        self.assertEqual(type(told), tuple)


if __name__ == "__main__":
    unittest.main()
