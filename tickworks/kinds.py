"""The types of streams, found by passes, and the equations held against them."""

from tickworks.errors import MixedTypes
from tickworks.names import streams_told
from tickworks.shapes import operands
from tickworks.types import YES_NO, rows_over, type_fault

TRUTH_OPS = ("not", "and", "or")
LIKE_OPS = ("same", "less")


def first_found(kinds):
    """The first type that was found among these, or None."""
    for kind in kinds:
        if kind is not None:
            return kind
    return None


def op_told(word, kinds):
    """The type that an op gives, from its operands' types, of which some may be None."""
    if word in TRUTH_OPS or word in LIKE_OPS:
        return YES_NO
    if word == "plus":
        return first_found(kinds)
    if None in kinds:
        return None
    if word == "pair":
        return ("pair", kinds[0], kinds[1])
    if kinds[0][0] != "pair":
        return None
    return kinds[0][1] if word == "first" else kinds[0][2]


def told_by(right, kinds):
    """The type that a right side gives, from its operands' types, of which some may be None."""
    word = right[0]
    if word == "op":
        return op_told(right[1], kinds)
    if word == "when":
        return kinds[0]
    if word == "choose":
        return first_found(kinds[1:])
    return right[1]


def found_by(names, right, kinds, outputs):
    """The list of the pairs (name, type or None) that an equation tells."""
    if right[0] == "call":
        return list(zip(names, outputs[right[1]]))
    return [(names[0], told_by(right, [kinds.get(word) for word in operands(right)]))]


def passed(node, kinds, outputs):
    """Whether one pass over a node's equations finds a type; it puts it into kinds."""
    found = False
    for names, right in node[3]:
        told = found_by(names, right, kinds, outputs)
        for name, kind in told:
            if kind is not None and name not in kinds:
                kinds[name] = kind
                found = True
    return found


def op_fits(word, kinds):
    """Whether an op is right for operands of these types."""
    if word in TRUTH_OPS:
        return all([kind == YES_NO for kind in kinds])
    if word in LIKE_OPS:
        return kinds[0] == kinds[1]
    if word == "plus":
        return kinds[0] == kinds[1] and kinds[0][0] == "count"
    if word == "pair":
        return type_fault(("pair", kinds[0], kinds[1])) is None
    return kinds[0][0] == "pair"


def is_lot_with(kind, word):
    """Whether a type is a lot with this word."""
    return kind[0] == "lot" and word in kind[1]


def choose_fits(kinds):
    """Whether a choose is right for a cond and streams of these types."""
    cond, branches = kinds[0], kinds[1:]
    if cond[0] != "lot" or len(cond[1]) != len(branches):
        return False
    return all([kind == branches[0] for kind in branches])


def call_fits(right, kinds, called):
    """Whether a call is right for args, and a cond of again, of these types."""
    wanted = [kind for _, kind in called[1]]
    if right[3] is None:
        return kinds == wanted
    return kinds[:-1] == wanted and is_lot_with(kinds[-1], right[3][1])


def right_fits(right, kinds):
    """Whether a right side, but of a call, is right for operands of these types."""
    word = right[0]
    if word == "op":
        return op_fits(right[1], kinds)
    if word == "table":
        return len(right[2]) == rows_over(kinds)
    if word == "held":
        return kinds[0] == right[1]
    if word == "when":
        return is_lot_with(kinds[1], right[3])
    if word == "choose":
        return choose_fits(kinds)
    return True


def equation_fits(names, right, kinds, by_name):
    """Whether an equation fits the types of its node's streams."""
    found = [kinds.get(word) for word in operands(right)]
    if None in found:
        return False
    if right[0] == "call":
        called = by_name[right[1]]
        return len(names) == len(called[2]) and call_fits(right, found, called)
    return len(names) == 1 and right_fits(right, found)


def kinds_in(node, by_name, outputs):
    """The dict from a node's streams to their types; MixedTypes if an equation does not fit."""
    kinds = {word: kind for word, kind in node[1]}
    while passed(node, kinds, outputs):
        pass
    for names, right in node[3]:
        if not equation_fits(names, right, kinds, by_name):
            raise MixedTypes(node[0], names[0])
    return {stream: kinds[stream] for stream in streams_told(node)}


def kinds_of(nodes):
    """The dict from the nodes' names to the dicts from their streams to types."""
    kinds, outputs, by_name = {}, {}, {}
    for node in nodes:
        name = node[0]
        kinds[name] = kinds_in(node, by_name, outputs)
        outputs[name] = [kinds[name][output] for output in node[2]]
        by_name[name] = node
    return kinds
