"""A node compiled alone: what its streams ask for, and which inputs they need."""

from tickworks.clocks import written_clocks
from tickworks.errors import UnknownName
from tickworks.nodes import Program
from tickworks.sequences import reached
from tickworks.shapes import worked_from


def alone(program, name):
    """The program whose nodes end with the node of a name; UnknownName for any value that is none."""
    nodes = program.nodes()
    last = nodes.index(program.node_at(name))
    return Program(nodes[:last + 1])


def asks_in(program):
    """The dict from a program's written-out streams that are no inputs to the tuples of those that they ask for."""
    clocks = written_clocks(program)
    asked = {}
    for stream, right, _ in program.written_rows():
        if right[0] != "input":
            found = worked_from(right) + [cond for cond, _ in clocks[stream]]
            asked[stream] = tuple([other for other in clocks if other in found])
    return asked


def stream_asks(program, name):
    """The dict from the written-out streams of a node, but inputs, to the tuples of those that they ask for."""
    return asks_in(alone(program, name))


def needs(program, name, stream):
    """The tuple of the node's inputs that a stream, any value, needs."""
    node = alone(program, name)
    asked = asks_in(node)
    if stream not in list(asked):
        raise UnknownName(stream)
    met = reached(asked, [stream])
    return tuple([word for word, _ in node.main()[1] if word in met])
