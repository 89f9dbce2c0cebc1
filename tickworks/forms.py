"""The forms of nodes: the path of BadProgram."""

from tickworks.errors import BadProgram
from tickworks.shapes import OPS, SHAPES
from tickworks.types import is_tuple, type_fault, value_fault
from tickworks.words import is_word

MOST_NODES = 4
MOST_WORDS = 4
MOST_EQUATIONS = 8
MOST_RESULTS = 60


def check_word(value, path):
    """BadProgram for any value that is no word."""
    if not is_word(value):
        raise BadProgram(path)


def check_tuple(value, path, least, most):
    """BadProgram for any value that is no tuple of so many parts."""
    if not is_tuple(value, least, most):
        raise BadProgram(path)


def check_kind(value, path):
    """BadProgram for any value that is no type."""
    if type_fault(value) is not None:
        raise BadProgram(path)


def check_value(kind, value, path):
    """BadProgram for any value that is none of the type."""
    if value_fault(kind, value) is not None:
        raise BadProgram(path)


def check_words(value, path, least, most):
    """BadProgram for any value that is no tuple of so many words."""
    check_tuple(value, path, least, most)
    for place, word in enumerate(value):
        check_word(word, path + (place,))


def check_results(kind, value, path):
    """BadProgram for any value that is no tuple of a table's results."""
    check_tuple(value, path, 1, MOST_RESULTS)
    for place, result in enumerate(value):
        check_value(kind, result, path + (place,))


def check_op(value, path):
    """BadProgram for any value that is no op's word."""
    if not isinstance(value, str) or value not in OPS:
        raise BadProgram(path)


def check_operands(right, value, path):
    """BadProgram for any value that is no tuple of operands of this right side."""
    if right[0] == "op":
        check_words(value, path, OPS[right[1]], OPS[right[1]])
    else:
        check_words(value, path, 1, MOST_WORDS)


def check_again(value, path):
    """BadProgram for any value that is neither None nor a pair of words."""
    if value is not None:
        check_words(value, path, 2, 2)


def check_part(right, role, value, path):
    """BadProgram for a part of a right side that has not its form; those ahead have theirs."""
    if role == "kind":
        check_kind(value, path)
    elif role == "value":
        check_value(right[1], value, path)
    elif role == "results":
        check_results(right[1], value, path)
    elif role == "op":
        check_op(value, path)
    elif role == "streams":
        check_operands(right, value, path)
    elif role == "again":
        check_again(value, path)
    else:
        check_word(value, path)


def has_shape(right):
    """Whether any value has a right side's first word, and as many parts as belong to it."""
    if not isinstance(right, tuple) or len(right) == 0:
        return False
    word = right[0]
    return isinstance(word, str) and word in SHAPES and len(right) == 1 + len(SHAPES[word])


def check_right(right, path):
    """BadProgram for any value that is no right side."""
    if not has_shape(right):
        raise BadProgram(path)
    for place, role in enumerate(SHAPES[right[0]]):
        check_part(right, role, right[place + 1], path + (place + 1,))


def check_inputs(value, path):
    """BadProgram for any value that is no inputs of a node."""
    check_tuple(value, path, 1, MOST_WORDS)
    for place, pair in enumerate(value):
        here = path + (place,)
        check_tuple(pair, here, 2, 2)
        check_word(pair[0], here + (0,))
        check_kind(pair[1], here + (1,))


def check_equations(value, path):
    """BadProgram for any value that is no equations of a node."""
    check_tuple(value, path, 1, MOST_EQUATIONS)
    for place, equation in enumerate(value):
        here = path + (place,)
        check_tuple(equation, here, 2, 2)
        check_words(equation[0], here + (0,), 1, MOST_WORDS)
        check_right(equation[1], here + (1,))


def check_node(node, path):
    """BadProgram for any value that is no node."""
    check_tuple(node, path, 4, 4)
    check_word(node[0], path + (0,))
    check_inputs(node[1], path + (1,))
    check_words(node[2], path + (2,), 1, MOST_WORDS)
    check_equations(node[3], path + (3,))


def check_forms(nodes):
    """BadProgram for any value that is no list of nodes."""
    if not isinstance(nodes, (list, tuple)) or not 1 <= len(nodes) <= MOST_NODES:
        raise BadProgram(())
    for place, node in enumerate(nodes):
        check_node(node, (place,))
