"""Clauses: all of a program that is to hold, and what is known where it is wanted."""

from claimsieve.programs import DEEDS, check_program


def clauses(program):
    """All that is to hold, function by function, place by place."""
    check_program(program)
    return [clause for number in range(len(program)) for clause in function_clauses(program, number)]


def function_clauses(program, number):
    params, _, outermost = program[number]
    names = tuple([name for name, _ in params])
    waiting = [(outermost, Way(params, (("ahead", number, names),), {}, {}))]
    found = []
    place = 0
    while waiting:
        tree, way = waiting.pop()
        for goal in goals(number, names, way.meant_tree(tree)):
            found.append((number, place, way.names, way.known, goal))
            if goal[0] == "most":
                way = way.knowing(goal)
        for inner in reversed(trees_behind(program, way.meant_tree(tree), way)):
            waiting.append(inner)
        place += 1
    return found


class Way:
    """The way to a tree: the names that stand there, what is known, and what was put.

    made tells of a list that was put its number and its rest, meant what the
    name of a head or a tail of such a list stands for.
    """

    def __init__(self, names, known, made, meant):
        self.names = names
        self.known = known
        self.made = made
        self.meant = meant

    def knowing(self, hypothesis):
        return Way(self.names, (*self.known, hypothesis), self.made, self.meant)

    def letting(self, name, deed, kind):
        if deed[0] in ("head", "tail") and deed[1] in self.made:
            number, rest = self.made[deed[1]]
            meant = {**self.meant, name: number if deed[0] == "head" else rest}
            return Way(self.names, self.known, self.made, meant)
        made = {**self.made, name: deed[1:]} if deed[0] == "put" else self.made
        known = (*self.known, *told_by(name, deed, self.made))
        return Way((*self.names, (name, kind)), known, made, self.meant)

    def meant_tree(self, tree):
        """A tree with what its own names stand for; the trees within it are as they were."""
        if tree[0] == "tell":
            return ("tell", self.meant_part(tree[1]))
        if tree[0] == "let":
            return ("let", tree[1], self.meant_row(tree[2]), tree[3])
        return (tree[0], self.meant_row(tree[1]), self.meant_row(tree[2]), *tree[3:])

    def meant_row(self, row):
        """A deed or a measure; its word is no name, even if a name is written the same."""
        return (*row[:1], *[self.meant_part(part) for part in row[1:]])

    def meant_part(self, part):
        if isinstance(part, tuple):
            return tuple([self.meant_part(name) for name in part])
        return self.meant.get(part, part)


def goals(number, names, tree):
    """What a tree wants, in turn."""
    match tree:
        case ("tell", name):
            return [("behind", number, names, name)]
        case ("claim", first, second, n, _):
            return [("most", first, second, n)]
        case ("let", _, deed, _):
            return deed_goals(deed)
        case _:
            return []


def deed_goals(deed):
    match deed:
        case ("head", whole):
            return [("most", (), ("len", whole), -1)]
        case ("tail", whole):
            return [("most", (), ("len", whole), -1)]
        case ("at", whole, name):
            return [("most", (), ("of", name), 0), ("most", ("of", name), ("len", whole), -1)]
        case ("call", function, names):
            return [("ahead", function, names)]
        case _:
            return []


def trees_behind(program, tree, way):
    """The trees just within a tree, each with the way to it."""
    if tree[0] == "tell":
        return []
    if tree[0] == "let":
        _, name, deed, inner = tree
        return [(inner, way.letting(name, deed, let_kind(program, deed)))]
    if tree[0] == "claim":
        return [(tree[4], way)]
    _, first, second, n, inner, other = tree
    return [(inner, way.knowing(("most", first, second, n))), (other, way.knowing(("most", second, first, -1 - n)))]


def let_kind(program, deed):
    return program[deed[1]][1] if deed[0] == "call" else DEEDS[deed[0]][1]


def told_by(name, deed, made):
    """What is known of a name by the deed that it is let by."""
    match deed:
        case ("num", n):
            return told_number(name, (), n)
        case ("sum", other, n):
            return told_number(name, ("of", other), n)
        case ("len", whole):
            return told_number(name, ("len", whole), 0)
        case ("nil",):
            return [("none", name)]
        case ("put", number, rest):
            return [("made", name, number, rest)]
        case ("tail", whole):
            return [("part", name, whole)]
        case ("call", function, names):
            return [("behind", function, names, name)]
        case ("head", whole):
            return [("one", name, whole)]
        case ("at", whole, _):
            return [] if whole in made else [("one", name, whole)]
        case _:
            return []


def told_number(name, other, n):
    return [("most", *link) for link in both_ways(("of", name), other, n)]


def both_ways(term, other, n):
    """The two differences by which a term is n more than another one."""
    return [(term, other, n), (other, term, -n)]


def spot_of(row):
    """Where the claims stand that a hypothesis or a goal is of, and the names of the things there, in turn."""
    if row[0] == "ahead":
        return (row[1], "ahead"), row[2]
    return (row[1], "behind"), (*row[2], row[3])


def difference(claim, names):
    """A claim, of these names."""
    slot, other, n = claim
    return named(slot, names), named(other, names), n


def named(slot, names):
    return () if len(slot) == 0 else (slot[0], names[slot[1]])


class Ground:
    """What a clause's hypotheses tell, apart by what it is told of.

    Items that a denial tells of are handed around as `some`: a list of
    (term, list), ("first",) ahead of ("second",).
    """

    def __init__(self, clause):
        _, _, names, hypotheses, self.goal = clause
        self.numbers = [name for name, kind in names if kind == "number"]
        self.lists = [name for name, kind in names if kind == "list"]
        self.made = {}
        self.parts = {name: [] for name in self.lists}
        self.ones = {name: [] for name in self.lists}
        self.plain = []
        self.spots = []
        for hypothesis in hypotheses:
            self.take(hypothesis)

    def take(self, hypothesis):
        match hypothesis:
            case ("most", first, second, n):
                self.plain.append((first, second, n))
            case ("none", name):
                self.plain.extend(both_ways(("len", name), (), 0))
            case ("made", name, number, rest):
                self.made[name] = (number, rest)
                self.plain.extend(both_ways(("len", name), ("len", rest), 1))
            case ("part", name, whole):
                self.parts[whole].append(name)
                self.plain.extend(both_ways(("len", whole), ("len", name), 1))
            case ("one", name, whole):
                self.ones[whole].append(name)
            case _:
                self.spots.append(spot_of(hypothesis))

    def claims_known(self, standing):
        """The claims that stand where the hypotheses are, of names."""
        return [difference(claim, names) for spot, names in self.spots for claim in standing[spot]]

    def plain_terms(self):
        """The terms but items of lists."""
        return [(), *[("of", name) for name in self.numbers], *[("len", name) for name in self.lists]]

    def wanted(self, standing):
        """What is to be kept: the goal's own difference, or each claim that stands there, of names."""
        if self.goal[0] == "most":
            return [self.goal[1:]]
        spot, names = spot_of(self.goal)
        return [difference(claim, names) for claim in standing[spot]]

    def denials(self, wanted):
        """For each case the items that the denial tells of, and the denial."""
        first, second, n = wanted
        return [
            (some + more, (other, term, -1 - n))
            for term, some in self.sides(first, ("first",))
            for other, more in self.sides(second, ("second",))
        ]

    def sides(self, measure, item):
        """The terms that a side of a difference is denied for, each with the items that it tells of."""
        if len(measure) == 0 or measure[0] != "each":
            return [(measure, [])]
        found = []
        name = measure[1]
        while name in self.made:
            number, name = self.made[name]
            found.append((("of", number), []))
        return [*found, (item, [(item, name)])]

    def links(self, told, some):
        """The differences of terms that are known, some items being told of; told are claims of names."""
        found = list(self.plain)
        for name in self.lists:
            # Of a list that was put the rest's length tells it.
            if name not in self.made:
                has_item = len(self.ones[name]) > 0 or name in [whole for _, whole in some]
                found.append(((), ("len", name), -1 if has_item else 0))
        for first, second, n in told:
            others = self.terms(second, some)
            found.extend([(term, other, n) for term in self.terms(first, some) for other in others])
        return found

    def terms(self, measure, some):
        """The terms that a claim of names tells of by a measure."""
        if len(measure) == 0 or measure[0] != "each":
            return [measure]
        return self.inside(measure[1], some)

    def inside(self, name, some):
        """The terms that stand for items of a list."""
        if name in self.made:
            number, rest = self.made[name]
            return [("of", number), *self.inside(rest, some)]
        found = [("each", name)]
        found.extend([("of", one) for one in self.ones[name]])
        found.extend([term for term, whole in some if whole == name])
        for part in self.parts[name]:
            found.extend(self.inside(part, some))
        return found
