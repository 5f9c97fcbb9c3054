"""Claims: the differences that can be claimed of a function's things."""

from claimsieve.errors import BadNumbers
from claimsieve.programs import check_function, check_program, is_between, kinds_ahead

NUMBERS = (-1, 0, 1)
MOST_NUMBERS = 5
FARTHEST_NUMBER = 9


def candidates(program, function, *, numbers=NUMBERS):
    """The lattice ahead of a function and the one behind it."""
    check_program(program)
    check_function(program, function)
    check_numbers(numbers)
    ahead = lattice(kinds_ahead(program[function]), numbers)
    behind = lattice(kinds_behind(program[function]), numbers)
    return ahead, behind


def check_numbers(numbers):
    if not isinstance(numbers, tuple) or not 1 <= len(numbers) <= MOST_NUMBERS:
        raise BadNumbers("numbers are a tuple of one to five")
    if not all([is_between(n, -FARTHEST_NUMBER, FARTHEST_NUMBER) for n in numbers]):
        raise BadNumbers("numbers are from -9 to 9")
    if not all([low < high for low, high in zip(numbers, numbers[1:])]):
        raise BadNumbers("numbers rise")


def kinds_behind(function):
    """The kinds of a function's params, in turn, and then of what it tells."""
    return kinds_ahead(function) + [function[1]]


def slots(kinds):
    """What can be compared of things of these kinds."""
    found = [()]
    for k, kind in enumerate(kinds):
        if kind == "number":
            found.append(("of", k))
        else:
            found.extend([("len", k), ("each", k)])
    return found


def lattice(kinds, numbers):
    """All claims of things of these kinds, rising."""
    sides = slots(kinds)
    return sorted([(slot, other, n) for slot in sides for other in sides if slot != other for n in numbers])
