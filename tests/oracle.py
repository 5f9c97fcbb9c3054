"""Worlds told by hand: what point 7 says of them, said again as plainly as can be, to hold the package against."""

import itertools


def slot_values(slot, things):
    """All that a slot stands for; things are numbers and (count, items), in turn."""
    if slot == ():
        return [0]
    word, k = slot
    if word == "of":
        return [things[k]]
    count, items = things[k]
    return [count] if word == "len" else list(items)


def claim_is_true(claim, things):
    slot, other, n = claim
    return all(first - second <= n for first in slot_values(slot, things) for second in slot_values(other, things))


def measured(measure, worths):
    if measure == ():
        return 0
    worth = worths[measure[1]]
    return worth if measure[0] == "of" else worth[0]


def worths_of(world):
    numbers, lists = world
    return {**dict(numbers), **{name: (count, items) for name, count, items in lists}}


def keeps(world, row, standing):
    """Whether a world keeps a hypothesis, or all of a goal, by the claims that stand."""
    worths = worths_of(world)
    word = row[0]
    if word == "most":
        return measured(row[1], worths) - measured(row[2], worths) <= row[3]
    if word == "none":
        return worths[row[1]][0] == 0
    if word == "made":
        (count, items), number, (others, rest) = (worths[name] for name in row[1:])
        return count == others + 1 and set(items) == set(rest) | {number}
    if word == "part":
        (count, items), (others, whole) = (worths[name] for name in row[1:])
        return count == others - 1 and set(items) <= set(whole)
    if word == "one":
        return worths[row[1]] in worths[row[2]][1]
    spot, names = spot_and_names(row)
    things = [worths[name] for name in names]
    return all(claim_is_true(claim, things) for claim in standing[spot])


def spot_and_names(row):
    return (row[1], row[0]), row[2] + row[3:]


def keeps_all(world, clause, standing):
    return all(keeps(world, row, standing) for row in clause[3])


def is_world(world, clause):
    """Whether a world is written as point 7 says, for the names of a clause."""
    numbers, lists = world
    wanted = {kind: sorted(name for name, its in clause[2] if its == kind) for kind in ("number", "list")}
    if [name for name, _ in numbers] != wanted["number"] or [name for name, _, _ in lists] != wanted["list"]:
        return False
    if any(type(n) is not int for _, n in numbers) or any(type(n) is not int or n < 0 for _, n, _ in lists):
        return False
    return all(
        type(items) is tuple and list(items) == sorted(set(items)) and (count == 0) == (items == ())
        for _, count, items in lists)


def standing_of(told):
    """What stands, by function and word, of what sieved tells."""
    standing = {}
    for number, (ahead, behind) in enumerate(told):
        standing[(number, "ahead")] = list(ahead)
        standing[(number, "behind")] = list(behind)
    return standing


def few_worlds(clause, reach=1, most=2):
    """All worlds of a clause's names with numbers up to reach from 0 and up to `most` items."""
    numbers = sorted(name for name, kind in clause[2] if kind == "number")
    lists = sorted(name for name, kind in clause[2] if kind == "list")
    near = range(-reach, reach + 1)
    sets = [items for many in (1, 2) for items in itertools.combinations(near, many)]
    told = [(0, ())] + [(count, items) for count in range(1, most + 1) for items in sets]
    for worths in itertools.product(near, repeat=len(numbers)):
        for rows in itertools.product(told, repeat=len(lists)):
            yield (tuple(zip(numbers, worths)),
                   tuple((name, count, items) for name, (count, items) in zip(lists, rows)))


def many_worlds(clause, reach=1, most=2):
    """How many few_worlds tells."""
    near = 2 * reach + 1
    numbers = sum(1 for _, kind in clause[2] if kind == "number")
    return near ** numbers * (1 + most * (near + near * (near - 1) // 2)) ** (len(clause[2]) - numbers)
