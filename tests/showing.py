"""What a paper promises, held against worlds told by hand."""

import unittest

from claimsieve.claims import candidates
from claimsieve.clauses import clauses
from tests import oracle


def begun_with(program, start, numbers):
    told = [candidates(program, number, numbers=numbers) for number in range(len(program))]
    standing = oracle.standing_of(told)
    standing[(0, "ahead")] = sorted(start)
    return standing


class ShowingTest(unittest.TestCase):
    """Ways to look at a paper, for tests to begin from."""

    def strikes_show(self, program, start, numbers, told, strikes):
        """Each strike's world, in turn, keeps what it is to keep, and what is left is what sieved tells."""
        rows = clauses(program)
        standing = begun_with(program, start, numbers)
        for place, claim, world in strikes:
            clause = rows[place]
            spot, names = oracle.spot_and_names(clause[4])
            self.assertIn(claim, standing[spot])
            self.assertTrue(oracle.is_world(world, clause))
            self.assertTrue(oracle.keeps_all(world, clause, standing))
            worths = oracle.worths_of(world)
            self.assertFalse(oracle.claim_is_true(claim, [worths[name] for name in names]))
            standing[spot].remove(claim)
        self.assertEqual(standing, oracle.standing_of(told[0]))

    def ends_stand(self, program, told, ends):
        """There is an end for each thing that is wanted, in turn, and it says what sieved tells."""
        standing = oracle.standing_of(told[0])
        left = list(ends)
        lacks = []
        for clause in clauses(program):
            goal = clause[4]
            if goal[0] != "most":
                spot, _ = oracle.spot_and_names(goal)
                for _ in standing[spot]:
                    self.assertEqual(left.pop(0)[0], "kept")
                continue
            word, shown = left.pop(0)
            self.assertIn(word, ("kept", "lacks"))
            if word == "lacks":
                self.assertTrue(oracle.is_world(shown, clause))
                self.assertTrue(oracle.keeps_all(shown, clause, standing))
                self.assertFalse(oracle.keeps(shown, goal, standing))
                lacks.append(clause[:2])
        self.assertEqual(left, [])
        self.assertEqual(told[1], sorted(set(lacks)))

    def cases_are_chains(self, ends):
        for cases in (shown for word, shown in ends if word == "kept"):
            for lists, ring in cases:
                shown = []
                for name, chain in lists:
                    self.is_chain(chain, (), ("len", name), -1, shown)
                    shown.append(name)
                self.is_chain(ring, ring[0][0], ring[0][0], -1, shown)

    def is_chain(self, chain, first, last, most, shown):
        terms = [link[0] for link in chain] + [chain[-1][1]]
        self.assertEqual((terms[0], terms[-1]), (first, last))
        self.assertEqual([link[1] for link in chain], terms[1:])
        self.assertLessEqual(sum(link[2] for link in chain), most)
        for term in terms:
            self.assertTrue(term[:1] != ("each",) or term[1] in shown)
