"""What can be a program, and how the trees of its functions are numbered."""

from claimsieve.errors import BadCount, BadProgram

KINDS = ("number", "list")
MOST_FUNCTIONS = 6
MOST_PARAMS = 4
MOST_SIGNS = 8
MOST_TREES = 60
MOST_DEPTH = 20
FARTHEST = 99

# How many parts a tree has, its word among them.
TREES = {"let": 4, "if": 6, "claim": 5, "tell": 2}

# What a measure's name stands for.
MEASURES = {"of": "number", "len": "list"}

# What a deed wants in turn, "n" being a number as it is written, and the kind
# of what it tells. A call is not here, as both hang on the function it calls.
DEEDS = {
    "num": (("n",), "number"),
    "sum": (("number", "n"), "number"),
    "len": (("list",), "number"),
    "nil": ((), "list"),
    "put": (("number", "list"), "list"),
    "head": (("list",), "number"),
    "tail": (("list",), "list"),
    "at": (("list", "number"), "number"),
    "ask": ((), "number"),
}


def is_whole(n):
    return isinstance(n, int) and not isinstance(n, bool)


def is_between(n, low, high):
    return is_whole(n) and low <= n <= high


def is_row(row, many):
    return isinstance(row, tuple) and len(row) == many


def has_word(row):
    """Whether row is a tuple with a text ahead, which alone is safe to look up in a table."""
    return isinstance(row, tuple) and len(row) > 0 and isinstance(row[0], str)


def is_name(word):
    if not isinstance(word, str) or not 1 <= len(word) <= MOST_SIGNS:
        return False
    return all(["a" <= sign <= "z" for sign in word])


def check_program(program):
    """Refuse a program by the first of it that can't be."""
    if not isinstance(program, tuple) or len(program) == 0:
        raise BadProgram(0, -1)
    for number, function in enumerate(program):
        if number >= MOST_FUNCTIONS or not is_headed(function):
            raise BadProgram(number, -1)
    for number in range(len(program)):
        check_trees(program, number)


def check_function(program, number):
    """Refuse what is no function's number in a program that is already known to be one."""
    if not is_between(number, 0, len(program) - 1):
        raise BadCount("there is no such function")


def is_headed(function):
    """Whether all that stands ahead of a function's trees can be."""
    if not is_row(function, 3):
        return False
    params, kind, _ = function
    if not isinstance(params, tuple) or len(params) > MOST_PARAMS:
        return False
    if not all([is_param(param) for param in params]):
        return False
    return len(dict(params)) == len(params) and kind in KINDS


def is_param(param):
    return is_row(param, 2) and is_name(param[0]) and param[1] in KINDS


def check_trees(program, number):
    """Refuse the first tree of a function that can't be, in the order of their numbers."""
    params, kind, outermost = program[number]
    waiting = [(outermost, 1, dict(params))]
    place = 0
    while waiting:
        tree, depth, names = waiting.pop()
        if place >= MOST_TREES or depth > MOST_DEPTH:
            raise BadProgram(number, place)
        within = trees_within(program, kind, tree, names)
        if within is None:
            raise BadProgram(number, place)
        for inner, standing in reversed(within):
            waiting.append((inner, depth + 1, standing))
        place += 1


def trees_within(program, kind, tree, names):
    """The trees just within a tree, each with the kinds of the names there; None if it can't be."""
    if not has_word(tree) or len(tree) != TREES.get(tree[0]):
        return None
    if tree[0] == "tell":
        return [] if stands(tree[1], kind, names) else None
    if tree[0] == "let":
        return within_let(program, tree, names)
    if not is_compared(tree, names):
        return None
    return [(inner, names) for inner in tree[4:]]


def within_let(program, tree, names):
    name, deed, inner = tree[1:]
    if not is_name(name) or name in names:
        return None
    kind = deed_kind(program, deed, names)
    if kind is None:
        return None
    return [(inner, {**names, name: kind})]


def is_compared(tree, names):
    """Whether an if or a claim compares two measures, by a number."""
    _, first, second, n = tree[:4]
    return is_measure(first, names) and is_measure(second, names) and is_near(n)


def is_near(n):
    return is_between(n, -FARTHEST, FARTHEST)


def is_measure(measure, names):
    if is_row(measure, 0):
        return True
    if not is_row(measure, 2) or not has_word(measure) or measure[0] not in MEASURES:
        return False
    return stands(measure[1], MEASURES[measure[0]], names)


def stands(name, kind, names):
    """Whether name stands for something of this kind; names tells the kind of each that stands."""
    return isinstance(name, str) and names.get(name) == kind


def deed_kind(program, deed, names):
    """The kind of what a deed tells; None if it can't be."""
    if not has_word(deed):
        return None
    if deed[0] == "call":
        return call_kind(program, deed, names)
    if deed[0] not in DEEDS:
        return None
    wants, kind = DEEDS[deed[0]]
    return kind if all_fit(deed[1:], wants, names) else None


def call_kind(program, deed, names):
    if not is_row(deed, 3) or not is_between(deed[1], 1, len(program) - 1):
        return None
    called = program[deed[1]]
    if not isinstance(deed[2], tuple) or not all_fit(deed[2], kinds_ahead(called), names):
        return None
    return called[1]


def kinds_ahead(function):
    """The kinds of a function's params, in turn."""
    return [kind for _, kind in function[0]]


def all_fit(parts, wants, names):
    if len(parts) != len(wants):
        return False
    return all([is_near(part) if want == "n" else stands(part, want, names) for part, want in zip(parts, wants)])


def numbered(outermost):
    """A function's trees in the order of their numbers, and by the number of an if that of its other tree."""
    trees = []
    others = {}
    waiting = [(outermost, None)]
    while waiting:
        tree, owner = waiting.pop()
        place = len(trees)
        trees.append(tree)
        if owner is not None:
            others[owner] = place
        if tree[0] == "if":
            waiting.append((tree[5], place))
            waiting.append((tree[4], None))
        elif tree[0] != "tell":
            waiting.append((tree[-1], None))
    return trees, others
