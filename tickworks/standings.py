"""Standings, and the standing that comes of a right side's operands."""

from tickworks.operations import value_by
from tickworks.shapes import operands

UNKNOWN = ("unknown",)
ABSENT = ("absent",)
THERE = ("there",)
CLASH = ("clash",)


def is_below(one, other):
    """Whether one standing is the other, or below it."""
    if one == other or one == UNKNOWN or other == CLASH:
        return True
    return one == THERE and other[0] == "value"


def operands_of(right):
    """The tuple of the streams that the right side of a written-out row speaks of."""
    return tuple(operands(right))


def is_here(standing):
    """Whether a standing is there or a value."""
    return standing == THERE or standing[0] == "value"


def do_part(standings):
    """Whether one of the standings is absent and another one there or a value."""
    return ABSENT in standings and any([is_here(standing) for standing in standings])


def of_const(right, kinds, standings, memory):
    """The standing of a const."""
    like = standings[0]
    return ("value", right[2]) if is_here(like) else like


def of_held(right, kinds, standings, memory):
    """The standing of a held."""
    like = standings[1]
    if do_part(standings):
        return CLASH
    return ("value", memory) if is_here(like) else like


def of_values(right, kinds, standings, memory):
    """The standing of an op or a table."""
    if do_part(standings):
        return CLASH
    if ABSENT in standings:
        return ABSENT
    if all([standing[0] == "value" for standing in standings]):
        return ("value", value_by(right, kinds, [value for _, value in standings]))
    if any([is_here(standing) for standing in standings]):
        return THERE
    return UNKNOWN


def of_arg(right, kinds, standings, memory):
    """The standing of an input of a called node."""
    own = standings[right[2]]
    if do_part(standings):
        return CLASH
    if ABSENT in standings:
        return ABSENT
    if own[0] == "value":
        return own
    if any([is_here(standing) for standing in standings]):
        return THERE
    return UNKNOWN


def of_when(right, kinds, standings, memory):
    """The standing of a when."""
    stream, cond = standings
    if do_part(standings):
        return CLASH
    if ABSENT in standings:
        return ABSENT
    if cond[0] != "value":
        return UNKNOWN
    return stream if cond[1] == right[3] else ABSENT


def of_choose(right, kinds, standings, memory):
    """The standing of a choose."""
    cond, branches = standings[0], standings[1:]
    if cond == ABSENT:
        return CLASH if do_part(standings) else ABSENT
    if cond[0] != "value":
        return cond
    place = kinds[0][1].index(cond[1])
    chosen = branches[place]
    others = [*branches[:place], *branches[place + 1:]]
    if chosen == ABSENT or any([is_here(standing) for standing in others]):
        return CLASH
    return chosen if chosen[0] == "value" else THERE


def of_as(right, kinds, standings, memory):
    """The standing of a call's name."""
    return standings[0]


RULES = {
    "const": of_const,
    "held": of_held,
    "op": of_values,
    "table": of_values,
    "arg": of_arg,
    "when": of_when,
    "choose": of_choose,
    "as": of_as,
}


def standing_of(right, kinds, standings, memory):
    """The standing that comes of the operands' standings; of no input."""
    if CLASH in standings:
        return CLASH
    rule = RULES[right[0]]
    return rule(right, kinds, standings, memory)
