"""The weakest claims to start with, of those that are wished, by which nothing lacks."""

from itertools import combinations

from claimsieve.claims import NUMBERS, check_numbers, check_start
from claimsieve.errors import BadStart
from claimsieve.programs import check_program
from claimsieve.sieve import sifted

MOST_WISHES = 4


def weakest(program, wishes, *, numbers=NUMBERS):
    """All sets of wishes by which as start nothing lacks, but by none of whose lesser sets."""
    check_program(program)
    check_start(program, wishes)
    if len(wishes) > MOST_WISHES:
        raise BadStart("there are too many wishes")
    check_numbers(numbers)
    rising = sorted(wishes)
    found = []
    # Rows that rise are combined so that the sets of as many claims ascend.
    for many in range(len(rising) + 1):
        for claims in combinations(rising, many):
            if not has_lesser(found, claims) and len(sifted(program, list(claims), numbers).lacks()) == 0:
                found.append(claims)
    return found


def has_lesser(found, claims):
    """Whether one of the sets that were found is within these claims."""
    return any([all([claim in claims for claim in lesser]) for lesser in found])
