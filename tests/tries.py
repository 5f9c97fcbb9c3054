"""Tries told by hand, as point 13 says them, to hold the package against."""

import itertools

from claimsieve.runs import run
from tests import oracle

NUMBERS = (0, 1, -1, 2, -2)
LISTS = ((), (0,), (1,), (-1,), (0, 0), (0, 1), (1, 0))
ANSWERS = ([], [1], [-1], [1, 1], [1, -1], [2, 1, 0])


def things_of(handed):
    """What is handed in, as worlds tell of it."""
    return [(len(worth), worth) if isinstance(worth, tuple) else worth for worth in handed]


def all_tries(program, start):
    """All tries in their order: what is handed in, and the answers."""
    choices = [NUMBERS if kind == "number" else LISTS for _, kind in program[0][0]]
    return [(list(handed), list(answers))
            for handed in itertools.product(*choices)
            if all(oracle.claim_is_true(claim, things_of(handed)) for claim in start)
            for answers in ANSWERS]


def faults_at(program, start, tries):
    """For each place at which one of so many tries faults, the first such."""
    found = {}
    for handed, answers in all_tries(program, start)[:tries]:
        end, _ = run(program, handed, answers, most=100)
        if end[0] == "fault":
            found.setdefault(end[2:], (handed, answers))
    return found
