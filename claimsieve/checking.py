"""Checking: whether a paper shows what it tells, without any search."""

from claimsieve.claims import NUMBERS, check_asked, is_claim, kinds_behind, standing_first
from claimsieve.clauses import Ground, clauses, difference, spot_of
from claimsieve.errors import BadPaper
from claimsieve.programs import is_between, is_row, is_whole, kinds_ahead


def checked(program, start, paper, *, numbers=NUMBERS):
    """None if all of a paper is so, else ("strike", number) or ("end", number) of the first that isn't."""
    check_asked(program, start, numbers)
    if not is_row(paper, 2) or not all([isinstance(part, tuple) for part in paper]):
        raise BadPaper("a paper is a tuple of two tuples")
    strikes, ends = paper
    grounds = [Ground(clause) for clause in clauses(program)]
    standing = standing_first(program, start, numbers)
    for number, strike in enumerate(strikes):
        if not is_strike(program, grounds, standing, strike):
            return ("strike", number)
        take_away(grounds, standing, strike)
    return first_wrong_end(grounds, standing, ends)


def is_strike(program, grounds, standing, strike):
    if not is_row(strike, 3) or not is_between(strike[0], 0, len(grounds) - 1):
        return False
    number, claim, world = strike
    ground = grounds[number]
    if ground.goal[0] == "most":
        return False
    spot, names = spot_of(ground.goal)
    if not is_claim(claim, kinds_at(program, spot)) or claim not in standing[spot]:
        return False
    return is_against(ground, standing, world, difference(claim, names))


def kinds_at(program, spot):
    function, word = spot
    return kinds_ahead(program[function]) if word == "ahead" else kinds_behind(program[function])


def take_away(grounds, standing, strike):
    spot, _ = spot_of(grounds[strike[0]].goal)
    standing[spot] = [claim for claim in standing[spot] if claim != strike[1]]


def is_against(ground, standing, world, wanted):
    """Whether this is a world that keeps all hypotheses, but not what is wanted."""
    if not is_world(ground, world):
        return False
    ranges = ranges_of(world)
    return not is_so_within(ranges, wanted) and keeps_all(ground, standing, world, ranges)


def is_world(ground, world):
    """Whether this is a world of the clause's names, whatever it keeps."""
    if not is_row(world, 2):
        return False
    numbers, lists = world
    if not are_named(numbers, 2, ground.numbers) or not are_named(lists, 3, ground.lists):
        return False
    return all([is_whole(row[1]) for row in numbers]) and all([is_counted(row[1], row[2]) for row in lists])


def are_named(rows, parts, names):
    """Whether rows is a tuple of rows of so many parts, one for each name, names rising."""
    if not is_row(rows, len(names)) or not all([is_row(row, parts) for row in rows]):
        return False
    return [row[0] for row in rows] == sorted(names)


def is_counted(count, items):
    """Whether a list can be told so: how many items it has, and a set of them."""
    if not is_whole(count) or count < 0 or not isinstance(items, tuple):
        return False
    if not all([is_whole(item) for item in items]):
        return False
    rising = all([low < high for low, high in zip(items, items[1:])])
    return rising and (count == 0) == (len(items) == 0)


def ranges_of(world):
    """The least and the greatest that each measure of names stands for; an empty list's items have none."""
    numbers, lists = world
    ranges = {(): (0, 0)}
    for name, number in numbers:
        ranges[("of", name)] = (number, number)
    for name, count, items in lists:
        ranges[("len", name)] = (count, count)
        if count > 0:
            ranges[("each", name)] = (items[0], items[-1])
    return ranges


def is_so_within(ranges, wanted):
    """Whether a difference of names is true in a world that has these ranges."""
    first, second, n = wanted
    if first not in ranges or second not in ranges:
        return True
    return ranges[first][1] - ranges[second][0] <= n


def keeps_all(ground, standing, world, ranges):
    """Whether a world keeps all hypotheses of a clause; those of lengths are among the plain differences."""
    if not all([is_so_within(ranges, link) for link in ground.plain]):
        return False
    if not all([is_so_within(ranges, claim) for claim in ground.claims_known(standing)]):
        return False
    items = {name: held for name, _, held in world[1]}
    worths = dict(world[0])
    for name, (number, rest) in ground.made.items():
        if list(items[name]) != sorted(set([worths[number], *items[rest]])):
            return False
    return are_within(ground, worths, items)


def are_within(ground, worths, items):
    for name in ground.lists:
        if not all([worths[one] in items[name] for one in ground.ones[name]]):
            return False
        if not all([item in items[name] for part in ground.parts[name] for item in items[part]]):
            return False
    return True


def first_wrong_end(grounds, standing, ends):
    number = 0
    for ground in grounds:
        court = Court(ground, standing)
        for wanted in ground.wanted(standing):
            if number == len(ends) or not court.is_end(ends[number], wanted):
                return ("end", number)
            number += 1
    return None if number == len(ends) else ("end", number)


class Court:
    """What is known of one clause by the claims that stand, to hold ends against."""

    def __init__(self, ground, standing):
        self.ground = ground
        self.standing = standing
        self.told = {claim: True for claim in ground.claims_known(standing)}
        self.plain = {link: True for link in ground.links([], [])}
        for name in ground.lists:
            # Where an item is told of, the links say -1; no item of its own is told of a list that was put.
            self.plain[((), ("len", name), 0)] = True
        self.tables = {}

    def is_end(self, end, wanted):
        if not is_row(end, 2):
            return False
        word, shown = end
        if word == "lacks":
            return self.ground.goal[0] == "most" and is_against(self.ground, self.standing, shown, wanted)
        if word != "kept":
            return False
        denials = self.ground.denials(wanted)
        if not is_row(shown, len(denials)):
            return False
        return all([self.is_case(case, some, denial) for case, (some, denial) in zip(shown, denials)])

    def is_case(self, case, some, denial):
        """Whether a case shows that what is denied can't be otherwise."""
        if not is_row(case, 2) or not isinstance(case[0], tuple):
            return False
        lists, ring = case
        shown = []
        for row in lists:
            if not is_row(row, 2) or not self.can_be_shown(row[0]):
                return False
            if not self.is_chain(row[1], some, denial, shown) or not comes_to(row[1], (), ("len", row[0]), -1):
                return False
            shown.append(row[0])
        return self.is_chain(ring, some, denial, shown) and comes_to(ring, ring[0][0], ring[0][0], -1)

    def can_be_shown(self, name):
        return name in self.ground.lists and name not in self.ground.made

    def is_chain(self, chain, some, denial, shown):
        """Whether this is a chain of links that are known, items of lists standing in it if their row is behind."""
        if not isinstance(chain, tuple) or len(chain) == 0:
            return False
        for link in chain:
            if not is_link(link) or (link != denial and not self.is_known(link, some)):
                return False
            if not all([may_stand(term, shown) for term in link[:2]]):
                return False
        return all([link[1] == after[0] for link, after in zip(chain, chain[1:])])

    def is_known(self, link, some):
        """Whether a link but the denial is known, some items being told of."""
        if link in self.plain or link in [((), ("len", whole), -1) for _, whole in some]:
            return True
        measures = self.measures_by_term(some)
        term, other, n = link
        return any([
            (first, second, n) in self.told
            for first in measures.get(term, [])
            for second in measures.get(other, [])
        ])

    def measures_by_term(self, some):
        """For each term the measures by which claims of names tell of it."""
        key = tuple(some)
        if key not in self.tables:
            found = {term: [term] for term in self.ground.plain_terms()}
            for name in self.ground.lists:
                for term in self.ground.inside(name, some):
                    found.setdefault(term, []).append(("each", name))
            self.tables[key] = found
        return self.tables[key]


def is_link(link):
    return is_row(link, 3) and is_term(link[0]) and is_term(link[1]) and is_whole(link[2])


def is_term(term):
    """Whether this is written like a term: texts alone, so that it can be looked up safely."""
    return isinstance(term, tuple) and all([isinstance(word, str) for word in term])


def may_stand(term, shown):
    return len(term) == 0 or term[0] != "each" or term[1] in shown


def comes_to(chain, term, other, n):
    """Whether a chain goes from a term to the other one, and its numbers come to n at most."""
    return chain[0][0] == term and chain[-1][1] == other and sum([link[2] for link in chain]) <= n
