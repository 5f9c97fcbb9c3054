"""Links, one by one: point 11 said again as plainly as can be, to hold what is let by against."""

import itertools
import unittest

from claimsieve.checking import Court
from claimsieve.clauses import Ground, clauses
from claimsieve.sieve import sieved
from tests import oracle
from tests.generated import made_case

FIRST, SECOND = ("first",), ("second",)
NUMBERS = range(-3, 4)


def named(slot, names):
    return (slot[0], names[slot[1]]) if slot else ()


class Reading:
    """What point 11 lets stand in a clause's links, by the claims that stand."""

    def __init__(self, clause, standing):
        _, _, names, self.hypotheses, _ = clause
        self.numbers = [name for name, kind in names if kind == "number"]
        self.lists = [name for name, kind in names if kind == "list"]
        self.made = {row[1]: row[2:] for row in self.hypotheses if row[0] == "made"}
        self.claims = []
        for row in self.hypotheses:
            if row[0] in ("ahead", "behind"):
                spot, things = oracle.spot_and_names(row)
                self.claims += [(named(first, things), named(second, things), n) for first, second, n in standing[spot]]

    def terms(self):
        words = [("of", name) for name in self.numbers]
        words += [(word, name) for name in self.lists for word in ("len", "each")]
        return [(), FIRST, SECOND, *words]

    def links(self, some):
        """All links but the denial, where some items, (term, list), are told of."""
        found = set()
        for name in self.lists:
            found.add(((), ("len", name), 0))
            if name in [whole for _, whole in some] or any(row[0] == "one" and row[2] == name for row in self.hypotheses):
                found.add(((), ("len", name), -1))
        for row in self.hypotheses:
            if row[0] == "most":
                found.add(row[1:])
            if row[0] == "none":
                found |= {(("len", row[1]), (), 0), ((), ("len", row[1]), 0)}
            if row[0] == "made":
                found |= {(("len", row[1]), ("len", row[3]), 1), (("len", row[3]), ("len", row[1]), -1)}
            if row[0] == "part":
                found |= {(("len", row[2]), ("len", row[1]), 1), (("len", row[1]), ("len", row[2]), -1)}
        for first, second, n in self.claims:
            found |= {(term, other, n) for term in self.told_of(first, some) for other in self.told_of(second, some)}
        return found

    def told_of(self, measure, some):
        if measure[:1] != ("each",):
            return {measure}
        if measure[1] in self.made:
            number, rest = self.made[measure[1]]
            return {("of", number)} | self.told_of(("each", rest), some)
        found = {measure} | {term for term, whole in some if whole == measure[1]}
        for row in self.hypotheses:
            if row[0] == "one" and row[2] == measure[1]:
                found.add(("of", row[1]))
            if row[0] == "part" and row[2] == measure[1]:
                found |= self.told_of(("each", row[1]), some)
        return found


class LinksTest(unittest.TestCase):
    def held_against(self, program, start, numbers):
        """How many links are let by, of each clause and of all items that can be told of."""
        standing = oracle.standing_of(sieved(program, start, numbers=numbers)[0])
        let_by = 0
        for clause in clauses(program):
            reading = Reading(clause, standing)
            court = Court(Ground(clause), standing)
            plain = [name for name in reading.lists if name not in reading.made]
            items = [[], *[[(term, name)] for term in (FIRST, SECOND) for name in plain],
                     *[[(FIRST, name), (SECOND, other)] for name in plain for other in plain]]
            for some in items:
                wanted = reading.links(some)
                told = {(term, other, n) for term in reading.terms() for other in reading.terms() for n in NUMBERS
                        if court.is_chain(((term, other, n),), some, None, reading.lists)}
                self.assertEqual(told, {link for link in wanted if link[2] in NUMBERS}, (clause, some))
                let_by += len(told)
        return let_by

    def test_small_programs(self):
        let_by = 0
        for number in range(120):
            let_by += self.held_against(*made_case(number))
        self.assertGreater(let_by, 10000)

    def test_each_stands_behind_its_row_alone(self):
        for number in range(40):
            program, start, numbers = made_case(number)
            standing = oracle.standing_of(sieved(program, start, numbers=numbers)[0])
            for clause in clauses(program):
                reading = Reading(clause, standing)
                court = Court(Ground(clause), standing)
                for link, name in itertools.product(reading.links([]), [None, *reading.lists]):
                    shown = [other for other in reading.lists if other != name]
                    self.assertIs(court.is_chain((link,), [], None, shown), ("each", name) not in link[:2])


if __name__ == "__main__":
    unittest.main()
