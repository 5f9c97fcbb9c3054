"""Some hundreds of small programs: what is promised of what is told of them, held against worlds told by hand."""

import itertools
import unittest

from claimsieve.checking import checked
from claimsieve.clauses import clauses
from claimsieve.papers import paper
from claimsieve.runs import run
from claimsieve.sieve import sieved
from tests import oracle
from tests.generated import made_case
from tests.showing import ShowingTest

MANY = 400
MOST_WORLDS = 1500
WORTHS = {"number": [0, 1, -1, 2], "list": [(), (0,), (-1, 1), (2, 0, 0)]}


def things_of(worths):
    """What is handed around in runs, as worlds tell of it."""
    return [(len(worth), worth) if isinstance(worth, tuple) else worth for worth in worths]


class SmallProgramsTest(ShowingTest):
    @classmethod
    def setUpClass(cls):
        cls.cases = []
        for number in range(MANY):
            program, start, numbers = made_case(number)
            told = sieved(program, start, numbers=numbers)
            cls.cases.append((number, program, start, numbers, told, paper(program, start, numbers=numbers)))

    def test_they_are_of_many_kinds(self):
        lacking = sum(1 for *_, told, _ in self.cases if told[1])
        self.assertTrue(MANY // 5 < lacking < MANY - MANY // 5, lacking)
        self.assertTrue(sum(len(made[0]) for *_, made in self.cases) > 10 * MANY)
        words = {row[0] for _, program, *_ in self.cases for clause in clauses(program) for row in clause[3]}
        self.assertEqual(words, {"ahead", "behind", "most", "none", "made", "part", "one"})

    def test_papers_are_let_by(self):
        for number, program, start, numbers, _, made in self.cases:
            self.assertIsNone(checked(program, start, made, numbers=numbers), number)

    def test_strikes_show_by_worlds_what_sieved_tells(self):
        for number, program, start, numbers, told, (strikes, _) in self.cases:
            with self.subTest(number):
                self.strikes_show(program, start, numbers, told, strikes)

    def test_ends_stand_for_all_that_is_wanted(self):
        for number, program, _, _, told, (_, ends) in self.cases:
            with self.subTest(number):
                self.ends_stand(program, told, ends)
                self.cases_are_chains(ends)

    def test_what_is_kept_is_so_in_few_worlds(self):
        looked = 0
        for number, program, _, _, told, _ in self.cases:
            standing = oracle.standing_of(told[0])
            for clause in clauses(program):
                kept = clause[4][0] != "most" or clause[:2] not in told[1]
                if kept and oracle.many_worlds(clause) <= MOST_WORLDS:
                    for world in oracle.few_worlds(clause):
                        if not oracle.keeps(world, clause[4], standing):
                            self.assertFalse(oracle.keeps_all(world, clause, standing), (number, clause, world))
                        looked += 1
        self.assertGreater(looked, 200 * MANY)

    def test_what_stays_is_so_on_runs(self):
        calls = faults = 0
        for number, program, start, _, told, _ in self.cases:
            with self.subTest(number):
                for args in itertools.product(*[WORTHS[kind] for _, kind in program[0][0]]):
                    if not all(oracle.claim_is_true(claim, things_of(args)) for claim in start):
                        continue
                    end, begun = run(program, list(args), [1, -1, 2], most=30)
                    calls += len(begun)
                    faults += end[0] == "fault"
                    self.so_at_each_call(begun, told[0])
                    self.assertTrue(end[0] != "fault" or (end[2], end[3]) in told[1], (args, end))
        self.assertGreater(calls, 5 * MANY)
        self.assertGreater(faults, MANY)

    def so_at_each_call(self, begun, stays):
        for function, handed, told in begun:
            ahead, behind = stays[function]
            for claim in ahead:
                self.assertTrue(oracle.claim_is_true(claim, things_of(handed)), (function, handed, claim))
            if told is not None:
                for claim in behind:
                    self.assertTrue(oracle.claim_is_true(claim, things_of([*handed, told])), (function, handed, claim))

    def test_the_same_again_and_nothing_handed_in_is_changed(self):
        for number in range(0, MANY, 10):
            _, program, start, numbers, told, made = self.cases[number]
            again, begun, _ = made_case(number)
            self.assertEqual(sieved(program, start, numbers=numbers), told)
            self.assertEqual(paper(program, start, numbers=numbers), made)
            self.assertEqual((program, start), (again, begun))

    def test_a_strike_left_out_is_found(self):
        for number, program, start, numbers, _, (strikes, ends) in self.cases[::5]:
            for k in range(0, len(strikes), 7):
                told = checked(program, start, (strikes[:k] + strikes[k + 1:], ends), numbers=numbers)
                self.assertIsNotNone(told, (number, k))
                self.assertTrue(told[0] == "end" or told[1] >= k, (number, k, told))


if __name__ == "__main__":
    unittest.main()
