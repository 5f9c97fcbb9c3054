"""Known programs: run, sieved, paper, checked, broken and why tell what is plain of them."""

import itertools
import unittest

from claimsieve.checking import checked
from claimsieve.clauses import clauses
from claimsieve.desk import Desk
from claimsieve.errors import NoLack
from claimsieve.notes import read, written
from claimsieve.papers import paper
from claimsieve.runs import run
from claimsieve.searching import broken, why
from claimsieve.sieve import sieved
from claimsieve.weakest import weakest
from tests import known, oracle
from tests.showing import ShowingTest

N1, N2 = ("of", 1), ("of", 2)
LEN0, LEN1, LEN2 = ("len", 0), ("len", 1), ("len", 2)
EACH0, EACH1 = ("each", 0), ("each", 1)
FILLED = ((), LEN0, -1)
ITEMS = [items for many in range(5) for items in itertools.product((-1, 0, 2), repeat=many)]
START = ([], [FILLED], [((), EACH0, 0)], [(EACH0, (), 1), ((), EACH0, 1)])


def same(slot, other):
    return [(slot, other, 0), (other, slot, 0)]


class KnownTest(ShowingTest):
    def program(self, name):
        return read(known.ALL[name])

    def runs_tell(self, name, told):
        for items in ITEMS:
            self.assertEqual(run(self.program(name), [items], [])[0], ("told", told(items)))

    def behind(self, name, start=(), numbers=(-1, 0, 1), function=0):
        return sieved(self.program(name), list(start), numbers=numbers)[0][function][1]

    def stay(self, told, *claims):
        for claim in claims:
            self.assertIn(claim, told)

    def are_gone(self, told, *claims):
        for claim in claims:
            self.assertNotIn(claim, told)

    def nothing_lacks(self, name, start=()):
        program = self.program(name)
        self.assertEqual(sieved(program, list(start))[1], [])
        for function, place in {row[:2] for row in clauses(program)}:
            self.assertIsNone(broken(program, list(start), function, place, tries=2000))
            with self.assertRaises(NoLack):
                why(program, list(start), function, place)
        self.assertEqual(weakest(program, []), [()])


class AllTest(KnownTest):
    def test_texts(self):
        for text in known.ALL.values():
            self.assertEqual(written(read(text)), text)

    def test_papers(self):
        for name in known.ALL:
            for start in START:
                for numbers in ((-1, 0, 1), (0,)):
                    with self.subTest((name, start, numbers)):
                        program = self.program(name)
                        told = sieved(program, start, numbers=numbers)
                        strikes, ends = paper(program, start, numbers=numbers)
                        self.strikes_show(program, start, numbers, told, strikes)
                        self.ends_stand(program, told, ends)
                        self.cases_are_chains(ends)
                        self.assertIsNone(checked(program, start, (strikes, ends), numbers=numbers))
                        for k in range(0, len(strikes), 5):
                            other = (strikes[:k] + strikes[k + 1:], ends)
                            self.assertIsNotNone(checked(program, start, other, numbers=numbers))

    def test_what_stays_is_so_on_runs(self):
        for name in known.ALL:
            program = self.program(name)
            for start in START:
                stays, lacks = sieved(program, start)
                for items in ITEMS:
                    if all(oracle.claim_is_true(claim, [(len(items), items)]) for claim in start):
                        end, begun = run(program, [items], [])
                        self.assertTrue(end[0] == "told" or end[2:] in lacks)
                        for function, handed, told in begun:
                            self.so_at_a_call(stays[function], handed, told)

    def so_at_a_call(self, stays, handed, told):
        ahead, behind = stays
        worths = [*handed] if told is None else [*handed, told]
        things = [(len(worth), worth) if isinstance(worth, tuple) else worth for worth in worths]
        for claim in ahead if told is None else ahead + behind:
            self.assertTrue(oracle.claim_is_true(claim, things), (claim, things))


class EachTest(KnownTest):
    def test_counted(self):
        self.runs_tell("counted", len)
        self.nothing_lacks("counted")
        told = self.behind("counted")
        self.stay(told, *same(N1, LEN0), ((), N1, 0))
        self.are_gone(told, ((), N1, -1), (N1, (), 1), (N1, LEN0, -1))
        self.stay(self.behind("counted", [FILLED]), ((), N1, -1))
        self.stay(self.behind("counted", [(LEN0, (), 1)]), (N1, (), 1))

    def test_gone_over(self):
        self.runs_tell("gone over", len)
        self.nothing_lacks("gone over")
        told = self.behind("gone over")
        self.stay(told, *same(N1, LEN0))
        stays, _ = sieved(self.program("gone over"), [])
        self.stay(stays[1][0], ((), N1, 0), (N1, LEN0, 0))
        self.are_gone(stays[1][0], (N1, LEN0, -1), ((), N1, -1), (N1, (), 1))
        self.stay(stays[1][1], *same(N2, LEN0), (N1, N2, 0))

    def test_too_far(self):
        program = self.program("too far")
        for items in ITEMS:
            self.assertEqual(run(program, [items], [])[0], ("fault", "beyond", 1, 2))
        self.assertEqual(sieved(program, [])[1], [(1, 2)])
        self.assertEqual(broken(program, [], 1, 2), ([()], []))
        self.assertEqual(why(program, [], 1, 2), ("run", [()], []))
        self.assertEqual(why(program, [FILLED], 1, 2), ("run", [(0,)], []))
        word, number, world = why(program, [], 1, 2, tries=0)
        rows = clauses(program)
        self.assertEqual((word, rows[number][:2]), ("world", (1, 2)))
        self.assertEqual(rows[number][4], ("most", ("of", "i"), ("len", "l"), -1))
        numbers, ((_, count, _),) = world
        # The if tells that the number isn't beyond the length, and the goal that it is the length.
        self.assertEqual(dict(numbers)["i"], count)
        self.assertEqual(weakest(program, [FILLED, (LEN0, (), 0)]), [(FILLED, (LEN0, (), 0))])

    def test_more(self):
        self.runs_tell("more", lambda items: tuple(item + 1 for item in items))
        self.nothing_lacks("more")
        told = self.behind("more")
        self.stay(told, *same(LEN0, LEN1))
        self.are_gone(told, ((), LEN1, -1), (EACH1, EACH0, 1), (EACH0, EACH1, 1))
        # Items are handed on, each tail's too, so what is claimed of all of them is known of those of the told list.
        self.stay(self.behind("more", [(EACH0, (), 0)]), (EACH0, (), 0), (EACH1, (), 1))
        self.are_gone(self.behind("more", [(EACH0, (), 0)]), (EACH1, (), 0))
        told = self.behind("more", [((), EACH0, 0)])
        self.stay(told, ((), EACH1, -1))
        self.are_gone(self.behind("more", [((), EACH0, 1)]), ((), EACH1, -1))
        self.stay(self.behind("more", [((), EACH0, 1)]), ((), EACH1, 0))

    def test_least(self):
        program = self.program("least")
        for items in ITEMS:
            end = run(program, [items], [])[0]
            self.assertEqual(end, ("told", min(items)) if items else ("fault", "empty", 1, 0))
        self.assertEqual(sieved(program, [])[1], [(1, 0)])
        self.assertEqual(broken(program, [], 1, 0), ([()], []))
        self.assertEqual(why(program, [], 1, 0), ("run", [()], []))
        self.nothing_least([FILLED])
        self.assertEqual(why(program, [], 1, 0, tries=0), ("world", 2, ((), (("l", 0, ()),))))
        self.assertEqual(weakest(program, [FILLED, (EACH0, (), 0)]), [(FILLED,)])
        self.stay(self.behind("least", [FILLED, (EACH0, (), 0), ((), EACH0, 1)]), (N1, (), 0), ((), N1, 1))
        self.are_gone(self.behind("least", [(EACH0, (), 1)]), (N1, (), 0))

    def nothing_least(self, start):
        program = self.program("least")
        self.assertEqual(sieved(program, start)[1], [])
        self.assertIsNone(broken(program, start, 1, 0, tries=2000))
        with self.assertRaises(NoLack):
            why(program, start, 1, 0)

    def test_sorted(self):
        self.runs_tell("sorted", lambda items: tuple(sorted(items)))
        self.nothing_lacks("sorted")
        told = self.behind("sorted")
        self.stay(told, *same(LEN0, LEN1))
        stays, _ = sieved(self.program("sorted"), [])
        self.stay(stays[2][1], (LEN1, LEN2, -1), (LEN2, LEN1, 1), ((), LEN2, -1))
        told = self.behind("sorted", [(EACH0, (), 1), ((), EACH0, 0)])
        self.stay(told, (EACH1, (), 1), ((), EACH1, 0), (EACH1, EACH0, 1), (EACH0, EACH1, 1))
        self.are_gone(told, (EACH1, (), 0), ((), EACH1, -1), (EACH1, EACH0, 0))

    def test_from_one_to_another_on_a_desk(self):
        """Function 1 goes too far, so it never tells, and all is true of what it would; then it is put right."""
        wrong, right = self.program("too far"), self.program("gone over")
        desk = Desk(wrong, [])
        self.assertEqual((desk.lacks(), desk.trial(1, right[1])), ([(1, 2)], []))
        gone, come = desk.edit(1, right[1])
        self.assertEqual((come, [row for row in gone if row[1] == "ahead"]), ([], []))
        self.assertIn((0, "behind", (N1, LEN0, -1)), gone)
        self.assertNotIn((0, "behind", (N1, LEN0, 0)), gone)
        self.assertEqual((desk.lacks(), desk.program()), ([], right))
        desk.back()
        self.assertEqual(desk.lacks(), [(1, 2)])


if __name__ == "__main__":
    unittest.main()
