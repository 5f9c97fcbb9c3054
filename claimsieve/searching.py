"""Searching: why something lacks at a place of a program, by a run that faults there or else by a world."""

from claimsieve.checking import is_so_within
from claimsieve.claims import NUMBERS, check_asked, check_start
from claimsieve.errors import BadCount, NoLack
from claimsieve.programs import check_program, is_between, numbered
from claimsieve.runs import MOST_CALLS, Run
from claimsieve.sieve import sifted

TRIES = 200
MOST_TRIES = 2000

# What is handed to function 0, by the kind of the param, and the answers, both in the order of the tries.
WORTHS = {
    "number": (0, 1, -1, 2, -2),
    "list": ((), (0,), (1,), (-1,), (0, 0), (0, 1), (1, 0)),
}
ANSWERS = ((), (1,), (-1,), (1, 1), (1, -1), (2, 1, 0))


def broken(program, start, function, place, *, tries=TRIES):
    """What is handed in and answered on the first try that faults at a place; None if none does."""
    check_program(program)
    check_start(program, start)
    check_tries(tries)
    return first_fault(program, start, (function, place), tries)


def why(program, start, function, place, *, numbers=NUMBERS, tries=TRIES):
    """Why something lacks at a place: a run that faults there, else a world of the first clause that lacks."""
    check_asked(program, start, numbers)
    check_tries(tries)
    lacking = first_lack(program, sifted(program, start, numbers), (function, place))
    if lacking is None:
        raise NoLack("nothing lacks there")
    fault = first_fault(program, start, (function, place), tries)
    if fault is None:
        return ("world", *lacking)
    return ("run", *fault)


def check_tries(tries):
    if not is_between(tries, 0, MOST_TRIES):
        raise BadCount("there can't be so many tries")


def is_place(program, where):
    """Whether there is such a function, and a tree of it of such a number."""
    function, place = where
    if not is_between(function, 0, len(program) - 1):
        return False
    trees, _ = numbered(program[function][2])
    return is_between(place, 0, len(trees) - 1)


def first_lack(program, sieve, where):
    """The number of the first clause at a place that lacks, and a world of it; None if nothing lacks there."""
    if not is_place(program, where):
        return None
    for number, row in enumerate(sieve.rows):
        if row[:2] == where:
            world = sieve.world_lacking(number)
            if world is not None:
                return number, world
    return None


def first_fault(program, start, where, tries):
    """What is handed in and answered on the first of so many tries that faults at a place."""
    if not is_place(program, where):
        return None
    left = tries
    for handed in all_handed(program[0][0], start):
        for answers in ANSWERS:
            if left == 0:
                return None
            left -= 1
            end = Run(program, answers, MOST_CALLS).go(handed)
            if end[0] == "fault" and end[2:] == where:
                return list(handed), list(answers)
    return None


def all_handed(params, start):
    """All that is handed to function 0 of which start is true, the last param's changing first."""
    rows = [()]
    for _, kind in params:
        rows = [(*row, worth) for row in rows for worth in WORTHS[kind]]
    return [row for row in rows if is_true_of(start, row)]


def is_true_of(start, handed):
    ranges = ranges_handed(handed)
    return all([is_so_within(ranges, claim) for claim in start])


def ranges_handed(handed):
    """The least and the greatest that each slot stands for; an empty list's items have none."""
    ranges = {(): (0, 0)}
    for k, worth in enumerate(handed):
        if isinstance(worth, tuple):
            ranges[("len", k)] = (len(worth), len(worth))
            if len(worth) > 0:
                ranges[("each", k)] = (min(worth), max(worth))
        else:
            ranges[("of", k)] = (worth, worth)
    return ranges
