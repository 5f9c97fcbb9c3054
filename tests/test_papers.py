"""What papers tell: strikes that show by a world what is struck, and ends in their order."""

import copy
import inspect

from claimsieve import papers
from claimsieve.checking import checked
from claimsieve.clauses import clauses
from claimsieve.papers import paper
from claimsieve.sieve import sieved
from tests.samples import COPY, COUNTDOWN, EVEN, let, program_of
from tests.showing import ShowingTest

N = (("n", "number"),)
L = (("l", "list"),)
LN = (("l", "list"), ("n", "number"))
N0, N1, N2 = ("of", 0), ("of", 1), ("of", 2)
LEN0, LEN1 = ("len", 0), ("len", 1)
EACH0, EACH1 = ("each", 0), ("each", 1)
ON = ("of", "n")

# Lists that were put within lists that were put are handed on, and at, head and tail are asked of them.
PUT = (
    (LN, "number",
     let("m", ("put", "n", "l"), "k", ("put", "n", "m"), "i", ("num", 1), "x", ("at", "k", "i"), "t", ("tail", "k"),
         "y", ("head", "t"), "z", ("call", 1, ("k", "m")), ("tell", "y"))),
    ((("a", "list"), ("b", "list")), "number", let("x", ("len", "a"), ("tell", "x"))),
)
# n is at most each item of k; k has one if l has one.
ITEMS = program_of((("l", "list"), ("k", "list"), ("n", "number")), "number", ("tell", "n"))
ITEMS_START = [((), LEN0, -1), ((), EACH0, 0), (EACH0, LEN1, -1), (N2, EACH1, 0), (EACH1, (), 0)]
LACKING = program_of(LN, "number", let("x", ("at", "l", "n"), "y", ("head", "l"),
                                       ("claim", ("of", "x"), ON, 0, ("tell", "y"))))
CASES = (
    (COUNTDOWN, []), (COUNTDOWN, [((), N0, 0)]), (EVEN, []), (EVEN, [(EACH0, (), 0)]),
    (COPY, []), (COPY, [(EACH0, (), 0)]),
    (COPY, [((), LEN0, -1), (EACH0, (), 0), ((), EACH0, 0)]), (PUT, []), (PUT, [(EACH0, (), 0), (N1, (), -1)]),
    (ITEMS, ITEMS_START), (ITEMS, []), (ITEMS, [((), LEN0, -1), (EACH1, EACH0, -1), (EACH0, EACH1, 0)]), (LACKING, []), (LACKING, [((), N1, 0)]), (LACKING, [((), LEN0, -1)]),
    (COUNTDOWN, [(N0, (), -1), ((), N0, -1)]),
)


class PaperTest(ShowingTest):
    maxDiff = None

    def test_papers_show_what_sieved_tells(self):
        for program, start in CASES:
            for numbers in ((-1, 0, 1), (0,), (-2, 3)):
                with self.subTest((program, start, numbers)):
                    told = sieved(program, start, numbers=numbers)
                    strikes, ends = paper(program, start, numbers=numbers)
                    self.strikes_show(program, start, numbers, told, strikes)
                    self.ends_stand(program, told, ends)
                    self.cases_are_chains(ends)
                    self.assertIsNone(checked(program, start, (strikes, ends), numbers=numbers))

    def test_a_paper_without_strikes(self):
        program = program_of(N, "number", ("tell", "n"))
        denial = (ON, ON, -1)
        end = ("kept", (((), (denial,)),))
        never = [(N0, (), -1), ((), N0, -1)]
        strikes, ends = paper(program, never, numbers=(0,))
        self.assertEqual((strikes, len(ends)), ((), 6))
        strikes, ends = paper(program, [], numbers=(0,))
        self.assertEqual((len(strikes), ends), (4, (end, end)))

    def test_strikes_tell_the_clause_by_its_number(self):
        strikes, _ = paper(COUNTDOWN, [])
        goals = [clause[4] for clause in clauses(COUNTDOWN)]
        self.assertTrue(all(goals[number][0] != "most" for number, _, _ in strikes))
        self.assertEqual({number for number, _, _ in strikes} & {0, 2}, {0, 2})

    def test_ends_of_goals_most(self):
        program = program_of(LN, "number", ("claim", ON, (), 5, ("claim", ON, (), 7, ("tell", "n"))))
        for start, first in (([], "lacks"), ([(N1, (), 5)], "kept"), ([(N1, (), 6)], "lacks")):
            _, ends = paper(program, start)
            self.assertEqual([end[0] for end in ends[:2]], [first, "kept"])
        self.assertEqual(paper(program, [(N1, (), 4)])[1][:2], (
            ("kept", (((), ((ON, (), 4), ((), ON, -6))),)), ("kept", (((), ((ON, (), 4), ((), ON, -8))),))))

    def test_a_case_for_each_item_of_what_was_put(self):
        """Of three items by two: the numbers that were put ahead of the items of the rest."""
        _, ends = paper(PUT, [(EACH0, (), -1), (N1, (), -1), ((), EACH0, 1), ((), N1, 1)], numbers=(0,))
        stays, _ = sieved(PUT, [(EACH0, (), -1), (N1, (), -1), ((), EACH0, 1), ((), N1, 1)], numbers=(0,))
        both = stays[1][0].index((EACH0, EACH1, 0))
        rows = clauses(PUT)
        place = [clause[4][0] for clause in rows].index("ahead")
        many = sum(1 for clause in rows[:place] if clause[4][0] == "most")
        word, cases = ends[many + both]
        self.assertEqual((word, len(cases)), ("kept", 6))
        sides = [[link for link in ring if link[2] == -1 and link[0] != ()] for _, ring in cases]
        self.assertEqual(sides[0], [(ON, ON, -1)])
        firsts = [ON, ON, ON, ON, ("first",), ("first",)]
        seconds = [ON, ("second",)] * 3
        for (_, ring), first, second in zip(cases, firsts, seconds):
            self.assertIn((second, first, -1), ring)

    def test_rows_of_lists_that_must_have_items(self):
        _, ends = paper(ITEMS, ITEMS_START, numbers=(0,))
        stays, _ = sieved(ITEMS, ITEMS_START, numbers=(0,))
        word, cases = ends[stays[0][1].index((("of", 3), (), 0))]
        self.assertEqual(word, "kept")
        (lists, ring), = cases
        self.assertEqual([name for name, _ in lists], ["l", "k"])
        self.assertIn(("each", "k"), [link[0] for link in ring])

    def test_rows_are_told_where_they_are_wanted_alone(self):
        _, ends = paper(ITEMS, ITEMS_START, numbers=(0,))
        stays, _ = sieved(ITEMS, ITEMS_START, numbers=(0,))
        for claim, (_, ((lists, _),)) in zip(stays[0][1], ends):
            if claim in (((), LEN0, 0), ((), EACH0, 0), (N2, ("of", 3), 0)):
                self.assertEqual(lists, ())


class InterfaceTest(ShowingTest):
    def test_names_and_arguments(self):
        self.assertEqual(paper.__module__, "claimsieve.papers")
        self.assertEqual(str(inspect.signature(paper)), "(program, start, *, numbers=(-1, 0, 1))")
        self.assertEqual(papers.NUMBERS, (-1, 0, 1))

    def test_all_of_it_is_tuples_texts_and_numbers(self):
        def is_plain(part):
            if isinstance(part, tuple):
                return all(is_plain(inner) for inner in part)
            return type(part) in (str, int)

        for program, start in CASES:
            made = paper(program, start)
            self.assertEqual((type(made), len(made)), (tuple, 2))
            self.assertTrue(is_plain(made))

    def test_the_same_again_and_nothing_handed_in_is_changed(self):
        program, start = copy.deepcopy(COPY), [(EACH0, (), 0)]
        made = paper(program, start)
        self.assertEqual(paper(program, start), made)
        self.assertEqual((program, start), (COPY, [(EACH0, (), 0)]))
        self.assertEqual(paper(program, start, numbers=(-1, 0, 1)), made)
