"""A program written out: its main node with all calls put in.

A written row is a triple (stream, right, type). Its types are those of the
nodes, so a row needs no search for its type once its node is known.
"""

from tickworks.errors import TooMany
from tickworks.shapes import behind_path, operands
from tickworks.types import rows_over

MOST_STREAMS = 24
MOST_HELDS = 6
MOST_CALLS = 4
MOST_INPUT_ROWS = 24


def put_right(right, path, agains):
    """A right side, but of a call, as it is written out in this path."""
    placed = behind_path(right, path)
    if right[0] == "held":
        return placed + (agains,)
    return placed


def call_rows(nodes, kinds, names, right, path, agains):
    """The list of the written rows of a call that stands in this path."""
    called = nodes[right[1]]
    inner = path + names[0] + "."
    streams = tuple([path + word for word in operands(right)])
    if right[3] is not None:
        cond, word = right[3]
        agains = agains + ((path + cond, word),)
    rows = [
        (inner + word, ("arg", streams, place), kind)
        for place, (word, kind) in enumerate(called[1])
    ]
    rows.extend(equation_rows(nodes, kinds, called, inner, agains))
    for name, output in zip(names, called[2]):
        rows.append((path + name, ("as", inner + output), kinds[called[0]][output]))
    return rows


def equation_rows(nodes, kinds, node, path, agains):
    """The list of the written rows of a node's equations in this path."""
    rows = []
    for names, right in node[3]:
        if right[0] == "call":
            rows.extend(call_rows(nodes, kinds, names, right, path, agains))
        else:
            kind = kinds[node[0]][names[0]]
            rows.append((path + names[0], put_right(right, path, agains), kind))
    return rows


def rows_of(nodes, kinds):
    """The list of the written rows of a list of nodes, whose streams have these types."""
    main = nodes[-1]
    by_name = {node[0]: node for node in nodes}
    rows = [(word, ("input", kind), kind) for word, kind in main[1]]
    rows.extend(equation_rows(by_name, kinds, main, "", ()))
    return rows


def calls_in(nodes, node):
    """How many calls there are in a node, those in called nodes counted each time."""
    called = [nodes[right[1]] for _, right in node[3] if right[0] == "call"]
    return len(called) + sum([calls_in(nodes, other) for other in called])


def check_size(nodes, rows):
    """TooMany if a list of nodes with these written rows passes a bound."""
    by_name = {node[0]: node for node in nodes}
    helds = [stream for stream, right, _ in rows if right[0] == "held"]
    if len(rows) > MOST_STREAMS or len(helds) > MOST_HELDS:
        raise TooMany()
    if calls_in(by_name, nodes[-1]) > MOST_CALLS:
        raise TooMany()
    if rows_over([kind for _, kind in nodes[-1][1]]) > MOST_INPUT_ROWS:
        raise TooMany()
