"""The sieve: claims that clauses don't keep are struck, each by a world, till all that stays is kept."""

from claimsieve.checking import is_so_within, ranges_of
from claimsieve.claims import NUMBERS, check_asked, standing_first
from claimsieve.clauses import Ground, clauses, difference, spot_of

# More than any chain's numbers can come to: there is no chain.
NO_CHAIN = 1000000000


def sieved(program, start, *, numbers=NUMBERS):
    """What stays of each function's claims, and the places where something lacks."""
    check_asked(program, start, numbers)
    sieve = sifted(program, start, numbers)
    return sieve.stays(), sieve.lacks()


def sifted(program, start, numbers):
    """A sieve of what is known to be fit for one, all struck that clauses don't keep."""
    sieve = Sieve(program, start, numbers)
    sieve.sift()
    return sieve


class Sieve:
    """A program's clauses, the claims that stand, and the strikes so far."""

    def __init__(self, program, start, numbers):
        self.many = len(program)
        self.rows = clauses(program)
        self.grounds = [Ground(row) for row in self.rows]
        self.standing = standing_first(program, start, numbers)
        self.strikes = []
        # By a clause's number, whether claims that it knows were struck since it was asked.
        self.waiting = [row[4][0] != "most" for row in self.rows]

    def sift(self):
        """Strike all that clauses don't keep."""
        while any(self.waiting):
            for number in range(len(self.rows)):
                if self.waiting[number]:
                    self.waiting[number] = False
                    self.ask(number)

    def ask(self, number):
        """Strike what a clause doesn't keep by the claims that stand."""
        ground = self.grounds[number]
        spot, names = spot_of(ground.goal)
        search = Search(ground, self.standing)
        left = list(self.standing[spot])
        while left:
            world = search.world_against(difference(left[0], names))
            if world is None:
                del left[0]
            else:
                left = self.strike(number, world, left)

    def strike(self, number, world, left):
        """Strike all claims of those left that a world doesn't keep, and tell the others."""
        spot, names = spot_of(self.grounds[number].goal)
        ranges = ranges_of(world)
        gone = {claim: True for claim in left if not is_so_within(ranges, difference(claim, names))}
        for claim in gone:
            self.strikes.append((number, claim, world))
        self.standing[spot] = [claim for claim in self.standing[spot] if claim not in gone]
        for other, ground in enumerate(self.grounds):
            if ground.goal[0] != "most" and spot in [known for known, _ in ground.spots]:
                self.waiting[other] = True
        return [claim for claim in left if claim not in gone]

    def stays(self):
        """For each function the claims that stand ahead and behind."""
        return [
            (list(self.standing[(number, "ahead")]), list(self.standing[(number, "behind")]))
            for number in range(self.many)
        ]

    def lacks(self):
        """The places where a goal "most" isn't kept, each once."""
        found = []
        for number, row in enumerate(self.rows):
            if row[:2] not in found and self.world_lacking(number) is not None:
                found.append(row[:2])
        return found

    def world_lacking(self, number):
        """A world of a clause that keeps all but its goal "most"; None if there is none, or the goal is another."""
        ground = self.grounds[number]
        if ground.goal[0] != "most":
            return None
        return Search(ground, self.standing).world_against(ground.goal[1:])


class Search:
    """The search of one clause, by the claims that stand, for worlds, and for what shows that there are none."""

    def __init__(self, ground, standing):
        self.ground = ground
        self.told = strongest(ground.claims_known(standing))
        self.settings = {}
        self.plain = Setting(ground, {}, Bounds())
        self.plain.add_terms(ground.plain_terms())
        self.plain.heed(ground.links(self.told, []))

    def setting(self, some):
        """What is known where some items are told of; it is asked for again and again."""
        key = tuple(some)
        if key not in self.settings:
            terms_in = {name: self.ground.inside(name, some) for name in self.ground.lists}
            setting = Setting(self.ground, terms_in, self.plain.bounds.twin())
            setting.add_terms([term for term, _ in some])
            setting.heed(self.ground.links(self.told, some))
            setting.settle()
            self.settings[key] = setting
        return self.settings[key]

    def world_against(self, wanted):
        """A world that keeps all hypotheses, but not what is wanted; None if there is none."""
        for some, denial in self.ground.denials(wanted):
            setting = self.setting(some)
            if setting.ring_by(denial) is None:
                denied = setting.denied(denial)
                if denied.bounds.ring is None:
                    return denied.world()
        return None

    def cases(self, wanted):
        """For each case of what is wanted, and kept, the lists and the ring that show it."""
        found = []
        for some, denial in self.ground.denials(wanted):
            setting = self.setting(some)
            ring = setting.ring_by(denial)
            if ring is None:
                setting = setting.denied(denial)
                ring = setting.bounds.ring
            found.append((needed(setting.rows, ring), ring))
        return tuple(found)


def strongest(links):
    """Of all differences of the same two the least one."""
    least = {}
    for term, other, n in links:
        if n < least.get((term, other), NO_CHAIN):
            least[(term, other)] = n
    return [(term, other, n) for (term, other), n in least.items()]


def needed(rows, ring):
    """The rows of lists whose items the ring tells of, or a row that is needed itself."""
    found = []
    chains = [ring]
    for name, chain in reversed(rows):
        if any([("each", name) in link[:2] for shown in chains for link in shown]):
            found.append((name, chain))
            chains.append(chain)
    return tuple(reversed(found))


class Setting:
    """What is known where some items are told of: bounds of the terms, and the rows of lists that must have items.

    terms_in tells the terms that stand for items of each list. An item of a list,
    ("each", list), is a term only behind the list's row, so links of it come
    later.
    """

    def __init__(self, ground, terms_in, bounds):
        self.ground = ground
        self.terms_in = terms_in
        self.bounds = bounds
        self.rows = []
        self.later = []

    def add_terms(self, terms):
        for term in terms:
            self.bounds.add_term(term)

    def heed(self, links):
        """Take in the links whose terms are there, and keep the others for later."""
        later = []
        for link in links:
            if self.bounds.ring is not None:
                return
            if link[0] in self.bounds.at and link[1] in self.bounds.at:
                self.bounds.tighten(link)
            else:
                later.append(link)
        self.later = later

    def settle(self):
        """Give an item to each list that must have one and has none yet."""
        name = self.bare_list()
        while name is not None:
            self.rows.append((name, self.bounds.chain((), ("len", name))))
            self.bounds.add_term(("each", name))
            self.heed(list(self.later))
            name = self.bare_list()

    def bare_list(self):
        """The last list that must have an item and has none yet; None if there is none, or no world at all."""
        if self.bounds.ring is not None:
            return None
        for name in reversed(self.ground.lists):
            if self.bounds.least_of((), ("len", name)) < 0:
                if not any([term in self.bounds.at for term in self.terms_in[name]]):
                    return name
        return None

    def ring_by(self, denial):
        """The ring that a denial closes, or that was closed without it; None if there is none yet."""
        if self.bounds.ring is not None:
            return self.bounds.ring
        return self.bounds.ring_by(denial)

    def denied(self, denial):
        """What is known where a difference is denied."""
        denied = Setting(self.ground, self.terms_in, self.bounds.twin())
        denied.rows = list(self.rows)
        denied.heed([denial, *self.later])
        denied.settle()
        return denied

    def world(self):
        """A world that keeps all that is known."""
        worths = self.bounds.least_worths()
        numbers = [(name, worths[("of", name)]) for name in sorted(self.ground.numbers)]
        lists = [
            (name, worths[("len", name)], self.items_of(name, worths))
            for name in sorted(self.ground.lists)
        ]
        return tuple(numbers), tuple(lists)

    def items_of(self, name, worths):
        return tuple(sorted({worths[term] for term in self.terms_in[name] if term in worths}))


class Bounds:
    """The least that each term less each other one is known to be at most, with the chain that shows it.

    ring is a chain from a term to the same whose numbers come to less than 0:
    all that is known can't be.
    """

    def __init__(self):
        self.at = {}
        self.least = []
        self.chains = []
        self.ring = None

    def twin(self):
        other = Bounds()
        other.at = {term: k for term, k in self.at.items()}
        other.least = [list(row) for row in self.least]
        other.chains = [list(row) for row in self.chains]
        other.ring = self.ring
        return other

    def add_term(self, term):
        """A term that nothing is known of yet."""
        for row, chains in zip(self.least, self.chains):
            row.append(NO_CHAIN)
            chains.append(())
        many = len(self.at)
        self.at[term] = many
        self.least.append([NO_CHAIN] * many + [0])
        self.chains.append([()] * (many + 1))

    def least_of(self, term, other):
        return self.least[self.at[term]][self.at[other]]

    def chain(self, term, other):
        return self.chains[self.at[term]][self.at[other]]

    def ring_by(self, link):
        """The ring that a link closes; None if it closes none."""
        term, other, n = link
        if self.least_of(other, term) + n < 0:
            return (*self.chain(other, term), link)
        return None

    def tighten(self, link):
        """Take in a link, and all that follows of it for other terms."""
        self.ring = self.ring_by(link)
        if self.ring is not None or self.least_of(link[0], link[1]) <= link[2]:
            return
        low, high = self.at[link[0]], self.at[link[1]]
        ends = [(k, n, self.chains[high][k]) for k, n in enumerate(self.least[high]) if n < NO_CHAIN]
        for row, chains in zip(self.least, self.chains):
            if row[low] < NO_CHAIN:
                ahead = row[low] + link[2]
                way = (*chains[low], link)
                for k, n, chain in ends:
                    if ahead + n < row[k]:
                        row[k] = ahead + n
                        chains[k] = (*way, *chain)

    def least_worths(self):
        """A number for each term by which all that is known is so, lengths being as little as they can."""
        least_to = [min([row[k] for row in self.least]) for k in range(len(self.least))]
        # No term is less than this one, which lies below all that is known of lengths.
        lowest = -min(least_to)
        return {term: -min(self.least[0][k], lowest + least_to[k]) for term, k in self.at.items()}
