"""States, inputs, and the fillings of a tick."""

from tickworks.errors import BadInputs, BadState, UnknownName
from tickworks.standings import UNKNOWN, operands_of, standing_of
from tickworks.types import value_fault


def helds(program):
    """The list of the written rows (stream, right, type) of helds, in their order."""
    return [row for row in program.written_rows() if row[1][0] == "held"]


def are_values(kinds, value):
    """Whether any value is a tuple of one value for each of these types."""
    if not isinstance(value, tuple) or len(value) != len(kinds):
        return False
    return all([value_fault(kind, part) is None for kind, part in zip(kinds, value)])


def is_inputs(program, inputs):
    """Whether any value is inputs of the program."""
    return are_values([kind for _, kind in program.main()[1]], inputs)


def check_state(program, state):
    """BadState for any value that is no state of the program."""
    if not are_values([kind for _, _, kind in helds(program)], state):
        raise BadState()


def check_tick(program, state, inputs):
    """BadState, then BadInputs, for any values that are no state and no inputs."""
    check_state(program, state)
    if not is_inputs(program, inputs):
        raise BadInputs(0)


def check_all_inputs(program, inputs):
    """BadInputs for the first of a list of any values that is no inputs."""
    for number, row in enumerate(inputs):
        if not is_inputs(program, row):
            raise BadInputs(number)


def first_state(program):
    """The tuple of the helds' own values."""
    return tuple([right[2] for _, right, _ in helds(program)])


def begun(program, inputs):
    """The filling that begins: main's inputs have their values, all else is unknown."""
    filling_told = {stream: UNKNOWN for stream, _, _ in program.written_rows()}
    for (word, _), value in zip(program.main()[1], inputs):
        filling_told[word] = ("value", value)
    return filling_told


def rules_of(program, state):
    """The dict from the streams, but main's inputs, to what tells their standings.

    That is a tuple: the right side, its operands, their types, and its memory.
    """
    rows = program.written_rows()
    kinds = {stream: kind for stream, _, kind in rows}
    memories = {row[0]: memory for row, memory in zip(helds(program), state)}
    rules = {}
    for stream, right, _ in rows:
        if right[0] != "input":
            streams = operands_of(right)
            types_told = [kinds[operand] for operand in streams]
            rules[stream] = (right, streams, types_told, memories.get(stream))
    return rules


def told_by(rule, standings):
    """The standing that a rule tells from the standings of all streams."""
    right, streams, kinds, memory = rule
    return standing_of(right, kinds, [standings[operand] for operand in streams], memory)


def rounds(program, state, inputs):
    """The list of fillings, round by round, up to the one that stays."""
    check_tick(program, state, inputs)
    rules = rules_of(program, state)
    found = [begun(program, inputs)]
    while True:
        ahead = found[-1]
        later = {
            stream: told_by(rules[stream], ahead) if stream in rules else standing
            for stream, standing in ahead.items()
        }
        if later == ahead:
            return found
        found.append(later)


def filled(program, state, inputs, sequence):
    """The filling that comes of the streams of a sequence, again and again."""
    rules = rules_of(program, state)
    standings = begun(program, inputs)
    streams = [stream for stream in sequence if stream in rules]
    changed = True
    while changed:
        changed = False
        for stream in streams:
            told = told_by(rules[stream], standings)
            if told != standings[stream]:
                standings[stream] = told
                changed = True
    return standings


def filling(program, state, inputs):
    """The least filling."""
    check_tick(program, state, inputs)
    return filled(program, state, inputs, [row[0] for row in program.written_rows()])


def filled_by(program, state, inputs, sequence):
    """What comes of filling in the streams of the sequence, any values, again and again."""
    check_tick(program, state, inputs)
    streams = [row[0] for row in program.written_rows()]
    for name in sequence:
        if name not in streams:
            raise UnknownName(name)
    return filled(program, state, inputs, sequence)
