"""The clocks that an equation makes due: of its operands, and of its names."""

from tickworks.shapes import operands


def due_operands(right, clock, kinds):
    """The list of the pairs (operand, clock) that are due where the telling stream has this clock.

    kinds has the types of the node's streams. The telling stream itself is among the operands.
    """
    if right[0] != "choose":
        return [(stream, clock) for stream in operands(right)]
    cond, branches = right[1], right[2]
    words = kinds[cond][1]
    return [(branch, clock + ((cond, word),)) for branch, word in zip(branches, words)]


def outer_clocks(called, clocking, names, args):
    """The list of the outer clocks of a called node's outputs, as a call with these names tells them."""
    renamed = {word: arg for (word, _), arg in zip(called[1], args)}
    for output, name in zip(called[2], names):
        renamed[output] = name
    return [
        tuple([(renamed[cond], word) for cond, word in clocking[output]]) for output in called[2]
    ]


def due_names(names, right, clock, called):
    """The list of the pairs (name, clock) that are due where the telling stream has this clock.

    called has, of each node that may be called, by its name, the pair (node, its clocking).
    """
    if right[0] == "when":
        return [(names[0], clock + ((right[2], right[3]),))]
    if right[0] == "call":
        node, clocking = called[right[1]]
        outer = outer_clocks(node, clocking, names, right[2])
        return [(name, clock + behind) for name, behind in zip(names, outer)]
    return [(names[0], clock)]
