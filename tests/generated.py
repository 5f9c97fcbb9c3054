"""Small programs, made by number: the same number makes the same program."""

from claimsieve.claims import candidates

NAMES = "abcdefghijklmnopqrstuvwxyz"
KINDS = ("number", "list")
KIND_OF = {"num": "number", "sum": "number", "len": "number", "nil": "list", "put": "list", "head": "number",
           "tail": "list", "at": "number", "ask": "number"}


class Dice:
    """Numbers that look thrown, by a number to begin with."""

    def __init__(self, number):
        self.state = number
        # The first ones hang on the number too plainly.
        for _ in range(5):
            self.below(1)

    def below(self, many):
        self.state = (self.state * 6364136223846793005 + 1442695040888963407) % 2 ** 64
        return (self.state >> 33) % many

    def one_of(self, rows):
        return rows[self.below(len(rows))]


class Maker:
    """Trees of one function, names unlike."""

    def __init__(self, dice, heads, kind):
        self.dice = dice
        self.heads = heads
        self.kind = kind
        self.named = 0
        self.left = 12

    def new_name(self):
        self.named += 1
        return "x" + NAMES[self.named]

    def measure(self, names):
        return self.dice.one_of([()] + [("of" if kind == "number" else "len", name) for name, kind in names])

    def compared(self, names):
        return self.measure(names), self.measure(names), self.dice.below(4) - 2

    def tree(self, names, depth):
        self.left -= 1
        fitting = [name for name, kind in names if kind == self.kind]
        if depth == 0 or self.left <= 0:
            return self.tell(fitting)
        throw = self.dice.below(20)
        if throw < 1:
            return self.tell(fitting)
        if throw < 5:
            return ("if", *self.compared(names), self.tree(names, depth - 1), self.tree(names, depth - 1))
        if throw < 7:
            return ("claim", *self.compared(names), self.tree(names, depth - 1))
        deed = self.deed(names)
        kind = self.heads[deed[1]][1] if deed[0] == "call" else KIND_OF[deed[0]]
        name = self.new_name()
        return ("let", name, deed, self.tree(names + [(name, kind)], depth - 1))

    def tell(self, fitting):
        if fitting:
            return ("tell", self.dice.one_of(fitting[-2:]))
        name = self.new_name()
        return ("let", name, ("ask",) if self.kind == "number" else ("nil",), ("tell", name))

    def deed(self, names):
        numbers = [name for name, kind in names if kind == "number"]
        lists = [name for name, kind in names if kind == "list"]
        dice = self.dice
        deeds = [("num", dice.below(3) - 1), ("nil",), ("ask",)]
        if numbers:
            deeds += [("sum", dice.one_of(numbers), dice.below(3) - 1)] * 2
        if lists:
            of = dice.one_of(lists)
            deeds += [("len", of), ("head", of), ("head", of), ("tail", of), ("tail", of)]
        if numbers and lists:
            deeds += [("put", dice.one_of(numbers), dice.one_of(lists))] * 2
            deeds += [("at", dice.one_of(lists), dice.one_of(numbers))]
        for number, (params, _) in enumerate(self.heads):
            if number > 0 and all(numbers if kind == "number" else lists for _, kind in params):
                names_in = tuple(dice.one_of(numbers if kind == "number" else lists) for _, kind in params)
                deeds += [("call", number, names_in)] * 3
        return dice.one_of(deeds)


def made_program(number):
    dice = Dice(number)
    heads = []
    for _ in range(1 + dice.below(2)):
        params = tuple((NAMES[p], dice.one_of(KINDS)) for p in range(1 + dice.below(2)))
        heads.append((params, dice.one_of(KINDS)))
    program = []
    for params, kind in heads:
        tree = Maker(dice, heads, kind).tree(list(params), 6)
        program.append((params, kind, tree))
    return tuple(program)


def made_case(number):
    """A program, claims to start with, and a lattice's numbers."""
    program = made_program(number)
    dice = Dice(number + 100000)
    numbers = dice.one_of([(0,), (-1,), (1,), (-1, 0), (0, 1), (-1, 1)])
    claims, _ = candidates(program, 0)
    start = []
    for _ in range(dice.below(5)):
        claim = dice.one_of(claims)
        if claim not in start:
            start.append(claim)
    return program, start, numbers
