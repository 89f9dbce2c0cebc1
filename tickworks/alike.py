"""Whether two programs are alike: whether no run parts them."""

from tickworks.errors import BadProgram
from tickworks.faces import do_fit
from tickworks.lots import are_different_keys, are_input_rows, input_rows, is_state
from tickworks.pairs import Ticks, are_parted, walked_pairs
from tickworks.rounds import first_state
from tickworks.runs import tick
from tickworks.types import is_tuple


def check_fit(one, other):
    """BadProgram for two programs that do not fit."""
    if not do_fit(one, other):
        raise BadProgram(())


def alike(one, other, *, pairs=400):
    """("alike", lot) with the pairs of states, or ("parts", inputs) that lead to a tick at which they part."""
    check_fit(one, other)
    first = (first_state(one), first_state(other))
    found, end = walked_pairs(Ticks(one), Ticks(other), first, pairs)
    return ("alike" if end is None else "parts", tuple(found))


def are_pairs(one, other, value):
    """Whether any value is a tuple of different pairs of states of two programs."""
    if not isinstance(value, tuple):
        return False
    for pair in value:
        if not is_tuple(pair, 2, 2) or not is_state(one, pair[0]) or not is_state(other, pair[1]):
            return False
    return are_different_keys(value)


def judge_alike(one, other, value):
    """None if any value is pairs that show that two programs are alike, else the first fault."""
    check_fit(one, other)
    if not are_pairs(one, other, value):
        return ("form",)
    numbers = {pair: number for number, pair in enumerate(value)}
    if (first_state(one), first_state(other)) not in numbers:
        return ("first",)
    rows = input_rows(one)
    for number, pair in enumerate(value):
        for row in rows:
            told, more = tick(one, pair[0], row), tick(other, pair[1], row)
            if are_parted(told, more):
                return ("parts", number, row)
            if told[0] == "good" and (told[2], more[2]) not in numbers:
                return ("open", number, row)
    return None


def judge_parts(one, other, value):
    """Whether any value is input rows such that two programs part at the last one, and at none ahead."""
    check_fit(one, other)
    if not are_input_rows(one, value):
        return False
    *ahead, last = value
    state, more = first_state(one), first_state(other)
    for row in ahead:
        told, other_told = tick(one, state, row), tick(other, more, row)
        if are_parted(told, other_told) or told[0] != "good":
            return False
        state, more = told[2], other_told[2]
    return are_parted(tick(one, state, last), tick(other, more, last))
