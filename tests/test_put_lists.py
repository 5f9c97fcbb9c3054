"""What a chain may tell of the length of a list that was put: no item of its own is told of it."""

import unittest

from claimsieve.checking import checked
from claimsieve.clauses import clauses
from claimsieve.papers import paper
from claimsieve.sieve import sieved
from tests import oracle
from tests.samples import let, program_of

N = (("n", "number"),)
L = (("l", "list"),)
LN = (("l", "list"), ("n", "number"))
N1 = ("of", 1)
LEN0, EACH0, EACH2 = ("len", 0), ("each", 0), ("each", 2)


def length(name):
    return ("len", name)


def all_wanted(program, stays):
    """What the ends of a paper are of, in turn: the clause's goal, and the claim where it is no "most"."""
    standing = oracle.standing_of(stays)
    found = []
    for _, _, _, _, goal in clauses(program):
        if goal[0] == "most":
            found.append((goal, None))
        else:
            found.extend((goal, claim) for claim in standing[oracle.spot_and_names(goal)[0]])
    return found


class PutListsTest(unittest.TestCase):
    """Rings in the place of a case, all else of the paper as it is made."""

    numbers = (0,)

    def ring_told(self, program, start, wanted, ring, case=0):
        """Whether a case of the last end that is of this is shown by a ring."""
        stays, _ = sieved(program, start, numbers=self.numbers)
        place = max(k for k, found in enumerate(all_wanted(program, stays)) if found == wanted)
        strikes, ends = paper(program, start, numbers=self.numbers)
        self.assertIsNone(checked(program, start, (strikes, ends), numbers=self.numbers))
        word, cases = ends[place]
        self.assertEqual(word, "kept")
        cases = (*cases[:case], ((), ring), *cases[case + 1:])
        told = checked(program, start, (strikes, (*ends[:place], (word, cases), *ends[place + 1:])),
                       numbers=self.numbers)
        self.assertIn(told, (None, ("end", place)))
        return told is None

    def chain_told(self, program, name, *chain, start=()):
        """Whether a chain shows that a list's length is 1 at the least, where that is wanted."""
        wanted = (("most", (), length(name), -1), None)
        return self.ring_told(program, list(start), wanted, (*chain, (length(name), (), 0)))

    def own_link_told(self, program, name, start=()):
        return self.chain_told(program, name, ((), length(name), -1), start=start)


class PutOnceTest(PutListsTest):
    def test_ahead_of_nil(self):
        program = program_of(N, "number", let("e", ("nil",), "c", ("put", "n", "e"), "d", ("head", "c"), ("tell", "d")))
        self.assertFalse(self.own_link_told(program, "c"))
        by_rest = (length("e"), length("c"), -1)
        self.assertTrue(self.chain_told(program, "c", ((), length("e"), 0), by_rest))
        self.assertFalse(self.chain_told(program, "c", ((), length("e"), -1), by_rest))
        self.assertFalse(self.chain_told(program, "c", ((), length("c"), 0)))

    def test_ahead_of_what_is_handed_in(self):
        for deed, kind in (("head", "number"), ("tail", "list")):
            program = program_of(LN, kind, let("c", ("put", "n", "l"), "d", (deed, "c"), ("tell", "d")))
            self.assertFalse(self.own_link_told(program, "c"))
            self.assertTrue(self.chain_told(program, "c", ((), length("l"), 0), (length("l"), length("c"), -1)))

    def test_where_its_length_is_claimed(self):
        program = program_of(LN, "number", let("c", ("put", "n", "l"), ("claim", (), length("c"), -1, ("tell", "n"))))
        self.assertFalse(self.own_link_told(program, "c"))

    def test_at_tells_of_no_item_of_it(self):
        tree = let("c", ("put", "n", "l"), "i", ("num", 0), "x", ("at", "c", "i"),
                   ("claim", (), length("c"), -1, ("tell", "x")))
        self.assertFalse(self.own_link_told(program_of(LN, "number", tree), "c"))

    def test_of_a_list_that_was_not_put_items_are_told(self):
        start = [((), LEN0, -1), ((), N1, 0), (N1, LEN0, -1)]
        for deed in (("head", "l"), ("at", "l", "n")):
            tree = let("x", deed, "c", ("put", "x", "l"),
                       ("claim", (), length("l"), -1, ("claim", (), length("c"), -1, ("tell", "n"))))
            program = program_of(LN, "number", tree)
            self.assertTrue(self.own_link_told(program, "l", start))
            self.assertFalse(self.own_link_told(program, "c", start))


class PutWithinPutTest(PutListsTest):
    PUT = ("e", ("nil",), "c", ("put", "n", "e"), "k", ("put", "n", "c"), "m", ("put", "n", "k"))

    def put(self, *more):
        return program_of(N, "number", let(*self.PUT, *more, ("tell", "d")))

    def test_of_each_of_them(self):
        for name in ("c", "k", "m"):
            with self.subTest(name):
                self.assertFalse(self.own_link_told(self.put("d", ("head", name)), name))

    def test_by_the_lengths(self):
        links = [(length("e"), length("c"), -1), (length("c"), length("k"), -1), (length("k"), length("m"), -1)]
        program = self.put("d", ("head", "m"))
        for k, name in enumerate(("e", "c", "k")):
            self.assertTrue(self.chain_told(program, "m", ((), length(name), 0), *links[k:]))
            self.assertFalse(self.chain_told(program, "m", ((), length(name), -1), *links[k:]))

    def test_tails_stand_for_what_was_put(self):
        """t stands for k, and u for c."""
        program = self.put("t", ("tail", "m"), "u", ("tail", "t"), "d", ("head", "u"))
        self.assertFalse(self.own_link_told(program, "c"))
        # Of m and k it was wanted ahead, so it is known behind.
        self.assertTrue(self.chain_told(program, "c", ((), length("e"), 0), (length("e"), length("c"), -1)))
        program = self.put("t", ("tail", "m"), "u", ("tail", "t"), "d", ("head", "m"))
        self.assertTrue(self.own_link_told(program, "m"))


class DeniedItemsTest(PutListsTest):
    """Items that are denied are those of the rest: of its length alone they tell."""

    PROGRAM = program_of(LN, "list", let("c", ("put", "n", "l"), "k", ("put", "n", "c"), ("tell", "k")))
    START = [(EACH0, (), 0), (N1, (), 0), (LEN0, (), 0)]
    WANTED = (("behind", 0, ("l", "n"), "k"), (EACH2, (), 0))

    def case_told(self, *ring):
        """The case of the rest's items, behind those of the two numbers that were put."""
        return self.ring_told(self.PROGRAM, self.START, self.WANTED, ring, case=2)

    def test_they_tell_of_the_rest(self):
        known = (length("l"), (), 0)
        self.assertTrue(self.case_told(((), length("l"), -1), known))
        self.assertTrue(self.case_told(((), length("l"), -1), (length("l"), length("c"), -1),
                                       (length("c"), length("l"), 1), known))

    def test_they_tell_nothing_of_what_was_put(self):
        known = (length("l"), (), 0)
        down = ((length("k"), length("c"), 1), (length("c"), length("l"), 1))
        for n in (-1, -2, -3):
            self.assertFalse(self.case_told(((), length("c"), n), *down[1:], known))
            self.assertFalse(self.case_told(((), length("k"), n), *down, known))


class ToldOtherwiseTest(PutListsTest):
    def test_by_a_hypothesis_most(self):
        twice = let("c", ("put", "n", "l"), "d", ("head", "c"), "f", ("head", "c"), ("tell", "d"))
        self.assertTrue(self.own_link_told(program_of(LN, "number", twice), "c"))
        inner = ("claim", (), length("c"), -1, ("tell", "n"))
        for n, told in ((-1, True), (-2, False)):
            tree = let("c", ("put", "n", "l"), ("if", (), length("c"), n, inner, ("tell", "n")))
            self.assertIs(self.own_link_told(program_of(LN, "number", tree), "c"), told)

    def test_by_a_claim_of_names(self):
        """What stays behind function 1 tells of the list that was put, if the lattice has the number."""
        called = (L, "number", let("x", ("len", "l"), ("claim", (), length("l"), -1, ("tell", "x"))))
        tree = let("c", ("put", "n", "l"), "y", ("call", 1, ("c",)), ("claim", (), length("c"), -1, ("tell", "y")))
        for numbers, told in (((-1,), True), ((0,), False), ((-1, 0), True)):
            self.numbers = numbers
            self.assertIs(self.own_link_told(((LN, "number", tree), called), "c"), told)


if __name__ == "__main__":
    unittest.main()
