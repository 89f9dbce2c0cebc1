"""Items: what is to be known of each stream in a tick, and what each of them asks for."""

from tickworks.errors import Ring, UnknownName
from tickworks.sequences import each_once, order_or_ring, reached
from tickworks.shapes import telling, worked_from


def items(program):
    """The list of all items: stream by stream, there ahead of told."""
    streams = [stream for stream, _, _ in program.written_rows()]
    return [(stream, word) for stream in streams for word in ("there", "told")]


def there_asks(right):
    """The list of the items that the there of a right side's stream asks for."""
    if right[0] == "input":
        return []
    if right[0] == "when":
        return [(telling(right), "there"), (right[2], "told")]
    return [(telling(right), "there")]


def told_asks(stream, right):
    """The list of the items that a stream's told asks for."""
    # Whether a when is there tells its cond, so its value asks for no more than its stream.
    streams = [telling(right)] if right[0] == "when" else worked_from(right)
    return [(stream, "there")] + [(operand, "told") for operand in streams]


def asked_items(program):
    """The dict from all items to the lists of the items that they ask for, all in the order of items."""
    order = items(program)
    asked = {}
    for stream, right, _ in program.written_rows():
        there, told = there_asks(right), told_asks(stream, right)
        asked[(stream, "there")] = [item for item in order if item in there]
        asked[(stream, "told")] = [item for item in order if item in told]
    return asked


def check_item(program, item):
    """UnknownName for any value that is no item."""
    if item not in items(program):
        raise UnknownName(item)


def asks(program, item):
    """The list of the items that an item, any value, asks for."""
    check_item(program, item)
    return asked_items(program)[item]


def reach(program, item):
    """The list of all items that an item, any value, asks for, straight or through others."""
    check_item(program, item)
    asked = asked_items(program)
    met = reached(asked, [item])
    return [other for other in asked if other in met]


def levels(program):
    """The dict from all items to their levels; Ring if the program has a ring."""
    asked = asked_items(program)
    word, found = order_or_ring(list(asked), asked)
    if word == "ring":
        raise Ring(each_once([stream for stream, _ in found]))
    told = {}
    for item in found:
        told[item] = 1 + max([told[other] for other in asked[item]], default=0)
    return {item: told[item] for item in asked}


def deepest(program):
    """The greatest level."""
    return max(list(levels(program).values()))
