"""Runs: what comes of a program that is handed something, call by call."""

from claimsieve.errors import BadArgs, BadCount
from claimsieve.programs import check_program, is_between, numbered

MOST_CALLS = 100
HIGHEST_MOST = 300
FARTHEST_HANDED = 1000000
MOST_ITEMS = 40


def run(program, args, answers, *, most=MOST_CALLS):
    """What comes of a run, and all its calls in the order in which they were begun."""
    check_program(program)
    check_args(program[0][0], args)
    check_answers(answers)
    if not is_between(most, 1, HIGHEST_MOST):
        raise BadCount("most can't be")
    going = Run(program, answers, most)
    end = going.go(tuple(args))
    return end, going.told_calls()


def check_args(params, args):
    if not isinstance(args, list) or len(args) != len(params):
        raise BadArgs("not as many are handed in as are wanted")
    for (_, kind), worth in zip(params, args):
        if not can_be_handed(worth, kind):
            raise BadArgs("what is handed in can't be")


def check_answers(answers):
    if not isinstance(answers, list) or not all([is_handed_number(answer) for answer in answers]):
        raise BadArgs("the answers can't be")


def is_handed_number(n):
    return is_between(n, -FARTHEST_HANDED, FARTHEST_HANDED)


def can_be_handed(worth, kind):
    if kind == "number":
        return is_handed_number(worth)
    if not isinstance(worth, tuple) or len(worth) > MOST_ITEMS:
        return False
    return all([is_handed_number(item) for item in worth])


class Call:
    """A call that is begun and hasn't told yet: its row among all calls, where it is, what its names stand for."""

    def __init__(self, row, function, worths):
        self.row = row
        self.function = function
        self.place = 0
        self.worths = worths


class Run:
    """A run on its way. The open calls are a list, so that no depth of calls is one of Python's own."""

    def __init__(self, program, answers, most):
        self.names = [[name for name, _ in function[0]] for function in program]
        self.trees = [numbered(function[2]) for function in program]
        self.answers = answers
        self.asked = 0
        self.most = most
        self.begun = []
        self.told = {}
        self.open_calls = []

    def go(self, handed):
        """Go on till the run ends, and tell what comes of it; handed is what function 0 is handed."""
        self.begin(0, handed)
        end = None
        while end is None:
            end = self.step()
        return end

    def told_calls(self):
        return [(function, handed, self.told.get(row)) for row, (function, handed) in enumerate(self.begun)]

    def begin(self, function, handed):
        worths = dict(zip(self.names[function], handed))
        self.open_calls.append(Call(len(self.begun), function, worths))
        self.begun.append((function, handed))

    def step(self):
        """Go through one tree; what comes of the run if it ends there, else None."""
        call = self.open_calls[-1]
        trees, others = self.trees[call.function]
        tree = trees[call.place]
        if tree[0] == "tell":
            return self.tell(call.worths[tree[1]])
        if tree[0] == "let":
            return self.let(call, tree[1], tree[2])
        if is_so(tree, call.worths):
            call.place += 1
        elif tree[0] == "if":
            call.place = others[call.place]
        else:
            return ("fault", "claim", call.function, call.place)
        return None

    def tell(self, worth):
        ended = self.open_calls.pop()
        self.told[ended.row] = worth
        if not self.open_calls:
            return ("told", worth)
        # The caller still stands at the let of its call.
        caller = self.open_calls[-1]
        trees, _ = self.trees[caller.function]
        self.bind(caller, trees[caller.place][1], worth)
        return None

    def let(self, call, name, deed):
        if deed[0] == "call":
            return self.let_call(call, deed)
        if deed[0] == "ask":
            self.bind(call, name, self.next_answer())
            return None
        word = fault_of(deed, call.worths)
        if word is not None:
            return ("fault", word, call.function, call.place)
        self.bind(call, name, worth_of(deed, call.worths))
        return None

    def let_call(self, call, deed):
        if len(self.begun) == self.most:
            return ("long",)
        self.begin(deed[1], tuple([call.worths[name] for name in deed[2]]))
        return None

    def bind(self, call, name, worth):
        call.worths[name] = worth
        call.place += 1

    def next_answer(self):
        if self.asked == len(self.answers):
            return 0
        self.asked += 1
        return self.answers[self.asked - 1]


def is_so(tree, worths):
    """Whether what an if or a claim compares is so."""
    _, first, second, n = tree[:4]
    return measured(first, worths) - measured(second, worths) <= n


def measured(measure, worths):
    if len(measure) == 0:
        return 0
    worth = worths[measure[1]]
    return worth if measure[0] == "of" else len(worth)


def fault_of(deed, worths):
    """The word of the fault that a deed ends in; None if it tells something."""
    if deed[0] in ("head", "tail") and len(worths[deed[1]]) == 0:
        return "empty"
    if deed[0] == "at" and not 0 <= worths[deed[2]] < len(worths[deed[1]]):
        return "beyond"
    return None


def worth_of(deed, worths):
    """What a deed tells that is no call and no ask, and doesn't fault."""
    match deed:
        case ("num", n):
            return n
        case ("sum", name, n):
            return worths[name] + n
        case ("len", name):
            return len(worths[name])
        case ("nil",):
            return ()
        case ("put", name, rest):
            return (worths[name], *worths[rest])
        case ("head", name):
            return worths[name][0]
        case ("tail", name):
            return worths[name][1:]
        case ("at", name, at):
            return worths[name][worths[at]]
