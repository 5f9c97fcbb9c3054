"""Papers: what shows that a sieve struck nothing that could stay, and that all that stays is kept."""

from claimsieve.claims import NUMBERS, check_asked
from claimsieve.sieve import Search, sifted


def paper(program, start, *, numbers=NUMBERS):
    """The strikes, each with the world that shows it, and an end for all that is wanted behind them."""
    check_asked(program, start, numbers)
    sieve = sifted(program, start, numbers)
    found = []
    for ground in sieve.grounds:
        found.extend(ends_of(ground, sieve.standing))
    return tuple(sieve.strikes), tuple(found)


def ends_of(ground, standing):
    """The ends of one clause: for a goal "most" one, for another goal one for each claim that stays there."""
    search = Search(ground, standing)
    if ground.goal[0] == "most":
        world = search.world_against(ground.goal[1:])
        if world is not None:
            return [("lacks", world)]
    return [("kept", search.cases(wanted)) for wanted in ground.wanted(standing)]
