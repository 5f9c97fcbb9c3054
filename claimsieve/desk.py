"""Desks: a program that is edited, all that is told of it being kept up."""

from claimsieve.claims import NUMBERS, check_asked, check_start
from claimsieve.programs import check_function, check_program
from claimsieve.sieve import sifted


class Desk:
    """A program, claims to start with, and numbers; states are those that back goes back to, the present one last.

    A state is (program, start, stays, lacks). Nothing of it is told itself, only copies.
    """

    def __init__(self, program, start, *, numbers=NUMBERS):
        check_asked(program, start, numbers)
        self.numbers = numbers
        self.states = [state_of(program, start, numbers)]

    def edit(self, number, function):
        """Put a function in the place of another one; what stays no more, and what stays only now."""
        return self.go_on(self.edited(number, function), self.start())

    def begin(self, start):
        """Start with other claims; what stays no more, and what stays only now."""
        check_start(self.program(), start)
        return self.go_on(self.program(), start)

    def trial(self, number, function):
        """Where something would lack with another function."""
        return sifted(self.edited(number, function), self.start(), self.numbers).lacks()

    def back(self):
        """Take the last edit or begin back; whether there was one."""
        if len(self.states) == 1:
            return False
        self.states.pop()
        return True

    def program(self):
        return self.states[-1][0]

    def start(self):
        return list(self.states[-1][1])

    def claims(self):
        return [(list(ahead), list(behind)) for ahead, behind in self.states[-1][2]]

    def lacks(self):
        return list(self.states[-1][3])

    def edited(self, number, function):
        """The program with another function, known to be one that the desk's start is fit for."""
        program = self.program()
        check_function(program, number)
        other = (*program[:number], function, *program[number + 1:])
        check_program(other)
        check_start(other, self.start())
        return other

    def go_on(self, program, start):
        before = rows_of(self.claims())
        self.states.append(state_of(program, start, self.numbers))
        after = rows_of(self.claims())
        return without(before, after), without(after, before)


def state_of(program, start, numbers):
    sieve = sifted(program, start, numbers)
    return program, tuple(start), sieve.stays(), sieve.lacks()


def rows_of(stays):
    """Each claim that stays with where it does, rising."""
    found = []
    for function, (ahead, behind) in enumerate(stays):
        found.extend([(function, "ahead", claim) for claim in ahead])
        found.extend([(function, "behind", claim) for claim in behind])
    return found


def without(rows, others):
    """The rows that are none of the others."""
    taken = {row: True for row in others}
    return [row for row in rows if row not in taken]
