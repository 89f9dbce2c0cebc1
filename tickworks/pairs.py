"""Pairs of states of two programs of one face, and the ticks at which they part."""

from tickworks.breadth import walked
from tickworks.lots import input_rows
from tickworks.runs import tick


class Ticks:
    """What the ticks of a program tell, each worked out once."""

    def __init__(self, program):
        self.program = program
        self._told = {}

    def tick_at(self, state, row):
        """What a tick tells."""
        if (state, row) not in self._told:
            self._told[(state, row)] = tick(self.program, state, row)
        return self._told[(state, row)]


def are_parted(one, other):
    """Whether two ticks, or entries of tables, tell different words, or different outputs."""
    return one[0] != other[0] or (one[0] == "good" and one[1] != other[1])


def walked_pairs(one, other, first, most):
    """What walked tells of the pairs of states of two programs' ticks, from the first pair on."""
    def leave(pair, row):
        told = one.tick_at(pair[0], row)
        more = other.tick_at(pair[1], row)
        if are_parted(told, more):
            return (True, None)
        return (None, (told[2], more[2])) if told[0] == "good" else (None, None)

    return walked(first, input_rows(one.program), most, leave)
