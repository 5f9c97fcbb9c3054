"""What the program refuses, one class for each kind of refusal."""


class ClaimError(ValueError):
    """Any refusal."""


class BadProgram(ClaimError):
    """A program can't be; function and place tell of the first of it that can't."""

    def __init__(self, function, place):
        ClaimError.__init__(self, f"function {function} can't be at place {place}")
        self.function = function
        self.place = place


class BadArgs(ClaimError):
    """What is handed to function 0, or answered to its asks, can't be."""


class BadCount(ClaimError):
    """A number that counts or names something is beyond its bounds."""


class BadNumbers(ClaimError):
    """The numbers of a lattice can't be."""


class BadStart(ClaimError):
    """The claims to start with can't be."""


class BadPaper(ClaimError):
    """A paper is no tuple of two tuples."""


class NoLack(ClaimError):
    """Nothing lacks where a lack was asked for."""


class BadText(ClaimError):
    """A text is no program; row tells of the first that can't be by its words."""

    def __init__(self, row):
        ClaimError.__init__(self, f"row {row} can't be")
        self.row = row
