"""Closed lots: the states that a program comes to, and what holds at all of their ticks."""

from tickworks.breadth import walked
from tickworks.errors import BadValue, UnknownName
from tickworks.rounds import are_values, first_state, helds, is_inputs
from tickworks.runs import tick
from tickworks.types import is_tuple, listed, value_fault


def input_rows(program):
    """The list of all input rows, ascending by the places of their values, the first input's first."""
    rows = [()]
    for _, kind in program.main()[1]:
        rows = [row + (value,) for row in rows for value in listed(kind)]
    return rows


def walked_states(program, states, wrong):
    """What walked tells of a program's states; wrong tells of a tick what ends the walk, or None."""
    def leave(state, row):
        told = tick(program, state, row)
        end = wrong(told)
        return (None, told[2]) if end is None else (end, None)

    return walked(first_state(program), input_rows(program), states, leave)


def closed_lot(program, *, states=400):
    """("closed", lot), or ("run", inputs, tick) that leads to a bad tick."""
    found, bad = walked_states(program, states, lambda told: None if told[0] == "good" else told)
    if bad is not None:
        return ("run", found, bad)
    return ("closed", tuple(found))


def is_state(program, value):
    """Whether any value is a state of a program."""
    return are_values([kind for _, _, kind in helds(program)], value)


def are_different_keys(value):
    """Whether no two things in a tuple are equal, of those that can be keys."""
    met = {thing: True for thing in value}
    return len(met) == len(value)


def are_states(program, value):
    """Whether any value is a tuple of different states of a program."""
    if not isinstance(value, tuple) or not all([is_state(program, state) for state in value]):
        return False
    return are_different_keys(value)


def judge_closed(program, value):
    """None if any value is a closed lot of the program, else the first fault."""
    if not are_states(program, value):
        return ("form",)
    numbers = {state: number for number, state in enumerate(value)}
    if first_state(program) not in numbers:
        return ("first",)
    rows = input_rows(program)
    for number, state in enumerate(value):
        for row in rows:
            told = tick(program, state, row)
            if told[0] != "good":
                return ("tick", number, row)
            if told[2] not in numbers:
                return ("open", number, row)
    return None


def are_input_rows(program, value):
    """Whether any value is a tuple of one or more input rows of a program."""
    return isinstance(value, tuple) and len(value) > 0 and all([is_inputs(program, row) for row in value])


def judge_bad(program, value):
    """Whether any value is ("run", inputs, tick) that leads to a bad tick."""
    if not is_tuple(value, 3, 3) or value[0] != "run" or not are_input_rows(program, value[1]):
        return False
    *ahead, last = value[1]
    state = first_state(program)
    for row in ahead:
        told = tick(program, state, row)
        if told[0] != "good":
            return False
        state = told[2]
    told = tick(program, state, last)
    return told[0] != "good" and told == value[2]


class Wish:
    """A wish: an output, by its place, that has one of some values where it is not absent."""

    def __init__(self, program, output, values):
        main = program.main()
        if output not in main[2]:
            raise UnknownName(output)
        self.place = main[2].index(output)
        kind = dict(program.streams_at(main[0]))[output]
        for number, value in enumerate(values):
            path = value_fault(kind, value)
            if path is not None:
                raise BadValue((number,) + path)
        self.allowed = tuple(values)

    def is_kept(self, told):
        """Whether the wish is kept at a good tick."""
        value = told[1][self.place]
        return value is None or value in self.allowed

    def wrong(self, told):
        """What is wrong with a tick, or None."""
        if told[0] != "good":
            return ("bad", told)
        return None if self.is_kept(told) else ("broken",)


def wish_kept(program, output, values, *, states=400):
    """("kept", lot), or ("bad", inputs, tick) or ("broken", inputs) that leads to a bad tick or a broken wish."""
    wish = Wish(program, output, values)
    found, wrong = walked_states(program, states, wish.wrong)
    if wrong is not None:
        return wrong[:1] + (found,) + wrong[1:]
    return ("kept", tuple(found))


def judge_kept(program, output, values, value):
    """Whether any value is a closed lot of the program at all of whose ticks the wish is kept."""
    wish = Wish(program, output, values)
    if judge_closed(program, value) is not None:
        return False
    rows = input_rows(program)
    return all([wish.is_kept(tick(program, state, row)) for state in value for row in rows])
