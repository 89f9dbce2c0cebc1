"""Ticks, and runs of them."""

from tickworks.rounds import check_all_inputs, check_state, filling, first_state, helds


def streams_with(standings, words):
    """The tuple of the streams whose standing has one of these first words."""
    return tuple([stream for stream, standing in standings.items() if standing[0] in words])


def memory_behind(right, memory, standings):
    """A held's memory behind a good tick."""
    _, _, own, stream, like, agains = right
    if any([standings[cond] == ("value", word) for cond, word in agains]):
        return own
    return standings[stream][1] if standings[like][0] == "value" else memory


def state_behind(program, state, standings):
    """The state behind a good tick."""
    rows = helds(program)
    memories = [
        memory_behind(right, memory, standings) for (_, right, _), memory in zip(rows, state)
    ]
    return tuple(memories)


def told_value(standing):
    """The value of an output at a good tick, None if it is absent."""
    return standing[1] if standing[0] == "value" else None


def tick_by(program, state, standings):
    """What a tick with this least filling tells."""
    clashes = streams_with(standings, ("clash",))
    if len(clashes) > 0:
        return ("clash", clashes)
    stuck = streams_with(standings, ("unknown", "there"))
    if len(stuck) > 0:
        return ("stuck", stuck)
    outputs = tuple([told_value(standings[output]) for output in program.main()[2]])
    return ("good", outputs, state_behind(program, state, standings))


def tick(program, state, inputs):
    """What a tick tells: a clash, what is stuck, or outputs and the next state."""
    return tick_by(program, state, filling(program, state, inputs))


def ticks_from(program, state, inputs):
    """The list of what the ticks tell, up to the first one that is not good."""
    check_all_inputs(program, inputs)
    told = []
    for row in inputs:
        last = tick(program, state, row)
        told.append(last)
        if last[0] != "good":
            break
        state = last[2]
    return told


def run(program, inputs):
    """The list of what the ticks tell, from the first state on."""
    return ticks_from(program, first_state(program), inputs)


def run_from(program, state, inputs):
    """The list of what the ticks tell, from this state on."""
    check_state(program, state)
    return ticks_from(program, state, inputs)


def state_after(program, state, inputs):
    """The state behind all ticks, None if one is not good."""
    told = run_from(program, state, inputs)
    if len(told) == 0:
        return state
    return told[-1][2] if told[-1][0] == "good" else None


def present_in(program, state, inputs):
    """The tuple of the streams that have a value in a tick, None if it is not good."""
    standings = filling(program, state, inputs)
    if tick_by(program, state, standings)[0] != "good":
        return None
    return streams_with(standings, ("value",))
