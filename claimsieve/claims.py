"""Claims: the differences that can be claimed of a function's things."""

from claimsieve.errors import BadNumbers, BadStart
from claimsieve.programs import check_function, check_program, has_word, is_between
from claimsieve.programs import is_near, is_row, is_whole, kinds_ahead

NUMBERS = (-1, 0, 1)
MOST_NUMBERS = 5
FARTHEST_NUMBER = 9

# What kind of thing a slot's word is told of.
SLOTS = {"of": "number", "len": "list", "each": "list"}


def candidates(program, function, *, numbers=NUMBERS):
    """The lattice ahead of a function and the one behind it."""
    check_program(program)
    check_function(program, function)
    check_numbers(numbers)
    ahead = lattice(kinds_ahead(program[function]), numbers)
    behind = lattice(kinds_behind(program[function]), numbers)
    return ahead, behind


def check_asked(program, start, numbers):
    """Refuse what no sieve can be made of, what is handed in first ahead."""
    check_program(program)
    check_start(program, start)
    check_numbers(numbers)


def check_numbers(numbers):
    if not isinstance(numbers, tuple) or not 1 <= len(numbers) <= MOST_NUMBERS:
        raise BadNumbers("numbers are a tuple of one to five")
    if not all([is_between(n, -FARTHEST_NUMBER, FARTHEST_NUMBER) for n in numbers]):
        raise BadNumbers("numbers are from -9 to 9")
    if not all([low < high for low, high in zip(numbers, numbers[1:])]):
        raise BadNumbers("numbers rise")


def check_start(program, start):
    """Refuse what are no claims to start with in a program that is already known to be one."""
    kinds = kinds_ahead(program[0])
    if not isinstance(start, list):
        raise BadStart("start is a list")
    if not all([is_claim(claim, kinds) and is_near(claim[2]) for claim in start]):
        raise BadStart("start is of claims ahead of function 0")
    if len(set(start)) != len(start):
        raise BadStart("the claims of start are unlike")


def is_claim(claim, kinds):
    """Whether this is a claim of things of these kinds."""
    if not is_row(claim, 3) or not is_whole(claim[2]):
        return False
    return is_slot(claim[0], kinds) and is_slot(claim[1], kinds) and claim[0] != claim[1]


def is_slot(slot, kinds):
    if is_row(slot, 0):
        return True
    if not is_row(slot, 2) or not has_word(slot) or not is_between(slot[1], 0, len(kinds) - 1):
        return False
    return SLOTS.get(slot[0]) == kinds[slot[1]]


def kinds_behind(function):
    """The kinds of a function's params, in turn, and then of what it tells."""
    return kinds_ahead(function) + [function[1]]


def slots(kinds):
    """What can be compared of things of these kinds."""
    found = [()]
    for k, kind in enumerate(kinds):
        if kind == "number":
            found.append(("of", k))
        else:
            found.extend([("len", k), ("each", k)])
    return found


def lattice(kinds, numbers):
    """All claims of things of these kinds, rising."""
    sides = slots(kinds)
    return sorted([(slot, other, n) for slot in sides for other in sides if slot != other for n in numbers])


def standing_first(program, start, numbers):
    """The claims that are begun with, rising: by (function, "ahead" or "behind")."""
    standing = {}
    for number, function in enumerate(program):
        standing[(number, "ahead")] = lattice(kinds_ahead(function), numbers)
        standing[(number, "behind")] = lattice(kinds_behind(function), numbers)
    standing[(0, "ahead")] = sorted(start)
    return standing
