"""Programs that several tests share, and short ways to write trees."""

# Function 0 hands its number to function 1, which counts it down to 0 by calling itself.
COUNTDOWN = (
    ((("n", "number"),), "number",
     ("let", "told", ("call", 1, ("n",)), ("tell", "told"))),
    ((("n", "number"),), "number",
     ("if", ("of", "n"), (), 0,
      ("tell", "n"),
      ("let", "less", ("sum", "n", -1),
       ("let", "rest", ("call", 1, ("less",)),
        ("tell", "rest"))))),
)

# Function 1 and function 2 call one another, an item less each time, and tell which of them came to the end.
EVEN = (
    ((("l", "list"),), "number",
     ("let", "told", ("call", 1, ("l",)), ("tell", "told"))),
    ((("l", "list"),), "number",
     ("if", ("len", "l"), (), 0,
      ("let", "even", ("num", 1), ("tell", "even")),
      ("let", "rest", ("tail", "l"),
       ("let", "told", ("call", 2, ("rest",)), ("tell", "told"))))),
    ((("l", "list"),), "number",
     ("if", ("len", "l"), (), 0,
      ("let", "odd", ("num", 0), ("tell", "odd")),
      ("let", "rest", ("tail", "l"),
       ("let", "told", ("call", 1, ("rest",)), ("tell", "told"))))),
)


def program_of(params, kind, tree):
    """A program of one function."""
    return ((params, kind, tree),)


def deed_program(params, kind, deed):
    """A program that tells what one deed tells."""
    return program_of(params, kind, ("let", "out", deed, ("tell", "out")))


def letters(number):
    """An unlike name for each number."""
    return "abcdefghij"[number // 10] + "abcdefghij"[number % 10]


def lets_around(many, inner):
    """`many` lets within one another, around another tree."""
    for number in reversed(range(many)):
        inner = ("let", letters(number), ("num", number), inner)
    return inner


def tree_of(many, tell):
    """A tree of `many` trees, at most 20 within one another."""
    if many <= 15:
        return lets_around(many - 1, tell)
    return ("if", (), (), 0, lets_around(14, tell), tree_of(many - 16, tell))


def let(*parts):
    """Lets within one another: a name and a deed in turn, the last part being the tree within."""
    *pairs, tree = parts
    for name, deed in reversed(list(zip(pairs[::2], pairs[1::2]))):
        tree = ("let", name, deed, tree)
    return tree


# Function 1 makes a list of the same items, one by one.
COPY = (
    ((("l", "list"),), "list", let("told", ("call", 1, ("l",)), ("tell", "told"))),
    ((("l", "list"),), "list",
     ("if", ("len", "l"), (), 0, ("tell", "l"),
      let("x", ("head", "l"), "rest", ("tail", "l"), "more", ("call", 1, ("rest",)), "made", ("put", "x", "more"),
          ("tell", "made")))),
)
