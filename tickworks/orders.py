"""Orders and rings of items, and what makes a program swift."""

from tickworks.clocks import clocks
from tickworks.errors import Ring, Unclocked
from tickworks.items import asked_items, items
from tickworks.rounds import rounds
from tickworks.sequences import order_or_ring


def order_of(program):
    """("order", order) or ("ring", ring), whichever the program has."""
    asked = asked_items(program)
    return order_or_ring(list(asked), asked)


def judge_order(program, value):
    """None if any value is an order of the program, else the first fault."""
    if not isinstance(value, tuple):
        return ("form",)
    asked = asked_items(program)
    order = items(program)
    met = {}
    for number, item in enumerate(value):
        if item not in order or item in met or not all([other in met for other in asked[item]]):
            return ("item", number)
        met[item] = True
    for item in order:
        if item not in met:
            return ("lacks", item)
    return None


def judge_ring(program, value):
    """None if any value is a ring of the program, else the first fault."""
    if not isinstance(value, tuple) or len(value) == 0:
        return ("form",)
    order = items(program)
    met = {}
    for number, item in enumerate(value):
        if item not in order or item in met:
            return ("item", number)
        met[item] = True
    asked = asked_items(program)
    for number, item in enumerate(value):
        if value[(number + 1) % len(value)] not in asked[item]:
            return ("ask", number)
    return None


def why_not(program):
    """None if the program is swift, else why it is not."""
    try:
        clocks(program, program.main()[0])
    except Unclocked as unclocked:
        return ("clock", unclocked.node, unclocked.stream)
    except Ring as ring:
        return ("ring", ring.streams)
    word, found = order_of(program)
    return None if word == "order" else ("order", found)


def is_swift(program):
    """Whether all nodes of the program are clocked, and it has an order."""
    return why_not(program) is None


def is_settled(standing):
    """Whether a standing is absent or a value."""
    return standing[0] in ("absent", "value")


def settled(program, state, inputs):
    """The list, for each round but the first, of the streams that it settles."""
    fillings = rounds(program, state, inputs)
    return [
        [stream for stream in later if is_settled(later[stream]) and not is_settled(ahead[stream])]
        for ahead, later in zip(fillings, fillings[1:])
    ]
