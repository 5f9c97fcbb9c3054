"""Notes: programs as texts, a row for each function."""

from claimsieve.errors import BadText
from claimsieve.programs import DEEDS, KINDS, MEASURES, TREES, check_program, is_name, numbered

FIGURES = "0123456789"
MOST_FIGURES = 2


def written(program):
    """A program's text."""
    check_program(program)
    return "\n".join([" ".join(row_words(function)) for function in program])


def row_words(function):
    params, kind, outermost = function
    trees, _ = numbered(outermost)
    words = [word for param in params for word in param]
    words.extend([">", kind, ":"])
    words.extend([word for tree in trees for word in tree_words(tree)])
    return words


def tree_words(tree):
    """The words of a tree but those of the trees within it."""
    match tree:
        case ("tell", name):
            return ["tell", name]
        case ("let", name, deed, _):
            return ["let", name, *deed_words(deed)]
        case _:
            return [tree[0], *measure_words(tree[1]), *measure_words(tree[2]), str(tree[3])]


def deed_words(deed):
    if deed[0] == "call":
        return ["call", str(deed[1]), "(", *deed[2], ")"]
    return [str(part) for part in deed]


def measure_words(measure):
    return ["0"] if len(measure) == 0 else list(measure)


def read(text):
    """The program of a text."""
    if not isinstance(text, str):
        raise BadText(0)
    program = tuple([Reader(row, words.split(" ")).read_function() for row, words in enumerate(text.split("\n"))])
    check_program(program)
    return program


def is_number_word(word):
    figures = word[1:] if word.startswith("-") else word
    if not 1 <= len(figures) <= MOST_FIGURES or not all([sign in FIGURES for sign in figures]):
        return False
    return str(int(word)) == word


def grown(heads):
    """The outermost of some trees, given in the order of their numbers, each without those within it.

    The innermost are made first, so that no depth of trees is one of Python's own.
    """
    waiting = []
    for head in reversed(heads):
        within = [waiting.pop() for _ in range(many_within(head))]
        waiting.append((*head, *within))
    return waiting[0]


def many_within(head):
    """How many trees a tree lacks that is given without those within it."""
    return TREES[head[0]] - len(head)


class Reader:
    """The words of a row, taken one by one; the row is refused where a word can't be."""

    def __init__(self, row, words):
        self.row = row
        self.words = words
        self.at = 0

    def read_function(self):
        params = []
        while not self.is_at(">"):
            params.append((self.name(), self.one_of(KINDS)))
        self.one_of([">"])
        kind = self.one_of(KINDS)
        self.one_of([":"])
        tree = grown(self.heads())
        if self.at < len(self.words):
            raise BadText(self.row)
        return tuple(params), kind, tree

    def heads(self):
        """The trees in the order of their numbers, each without those within it."""
        found = []
        wanted = 1
        while wanted > 0:
            head = self.head()
            found.append(head)
            wanted += many_within(head) - 1
        return found

    def head(self):
        word = self.one_of(list(TREES))
        if word == "tell":
            return (word, self.name())
        if word == "let":
            return (word, self.name(), self.deed())
        return (word, self.measure(), self.measure(), self.number())

    def deed(self):
        word = self.one_of(["call"] + list(DEEDS))
        if word == "call":
            return (word, self.number(), self.names_between())
        wants, _ = DEEDS[word]
        return (word, *[self.number() if want == "n" else self.name() for want in wants])

    def names_between(self):
        """The names between the brackets of a call."""
        self.one_of(["("])
        found = []
        while not self.is_at(")"):
            found.append(self.name())
        self.one_of([")"])
        return tuple(found)

    def measure(self):
        word = self.one_of(["0"] + list(MEASURES))
        return () if word == "0" else (word, self.name())

    def name(self):
        word = self.take()
        if not is_name(word):
            raise BadText(self.row)
        return word

    def number(self):
        word = self.take()
        if not is_number_word(word):
            raise BadText(self.row)
        return int(word)

    def one_of(self, words):
        word = self.take()
        if word not in words:
            raise BadText(self.row)
        return word

    def take(self):
        if self.at == len(self.words):
            raise BadText(self.row)
        self.at += 1
        return self.words[self.at - 1]

    def is_at(self, word):
        return self.at < len(self.words) and self.words[self.at] == word
