"""The names in nodes: those that stand twice, and those that nothing has."""

from tickworks.errors import TwiceTold, UnknownName
from tickworks.shapes import operands


def names_told(node):
    """The list of the names of a node's equations, in order."""
    return [name for names, _ in node[3] for name in names]


def streams_told(node):
    """The list of a node's streams: its inputs, then the names of its equations."""
    return [word for word, _ in node[1]] + names_told(node)


def check_once(words):
    """TwiceTold for the first word that stands ahead."""
    for place, word in enumerate(words):
        if word in words[:place]:
            raise TwiceTold(word)


def check_different(nodes):
    """TwiceTold for the first name that stands twice where it may stand once."""
    for place, node in enumerate(nodes):
        check_once([other[0] for other in nodes[:place + 1]])
        check_once(streams_told(node))
        check_once(node[2])


def check_outputs(node):
    """UnknownName for the first output that no equation names."""
    names = names_told(node)
    for output in node[2]:
        if output not in names:
            raise UnknownName(output)


def check_operands(node, ahead):
    """UnknownName for the first operand that is no stream, or called node that is not ahead."""
    streams = streams_told(node)
    for _, right in node[3]:
        if right[0] == "call" and right[1] not in ahead:
            raise UnknownName(right[1])
        for word in operands(right):
            if word not in streams:
                raise UnknownName(word)


def check_known(nodes):
    """UnknownName for the first name that nothing has."""
    for place, node in enumerate(nodes):
        check_outputs(node)
        check_operands(node, [other[0] for other in nodes[:place]])


def check_names(nodes):
    """TwiceTold, then UnknownName, for nodes that have their forms."""
    check_different(nodes)
    check_known(nodes)
