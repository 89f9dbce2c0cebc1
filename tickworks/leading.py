"""Users that are made for a node which is compiled alone.

A user calls its streams as the node calls its inputs and outputs, so nothing has to be named anew.
"""

from tickworks.clocks import output_clocks
from tickworks.nodes import Program
from tickworks.types import YES_NO, count_of, listed

LETTERS = "abcdefghijklmnopqrstuvwxyz"


def free_words(taken):
    """The list of the words of one letter that are not taken."""
    return [letter for letter in LETTERS if letter not in taken]


def with_user(node, inputs, outputs, equations):
    """The program of a node alone and of a main node with these inputs, outputs and equations."""
    nodes = node.nodes()
    name = free_words([other[0] for other in nodes])[0]
    return Program(nodes + [(name, inputs, outputs, equations)])


def call_of(called):
    """The equation of a call of a node, in which all streams are called as in the node."""
    args = tuple([word for word, _ in called[1]])
    return (called[2], ("call", called[0], args, None))


def plain_user(node):
    """The user that hands its inputs to a node alone, and all outputs on."""
    called = node.main()
    return with_user(node, called[1], called[2], (call_of(called),))


def brought_to_base(pair, cond_kind, output, kind, own, words):
    """A pair: equations that bring an output to the base clock, and the stream that they bring it to.

    The output, of this kind, is there where the cond of the pair (cond, word) has its word; own is a
    stream on the base clock; words are free ones.
    """
    cond, word = pair
    whole, rest, *others = words
    equations = [((rest,), ("const", kind, listed(kind)[0], own))]
    branches = []
    for place, other in enumerate(cond_kind[1]):
        if other == word:
            branches.append(output)
        else:
            equations.append(((others[place],), ("when", rest, cond, other)))
            branches.append(others[place])
    equations.append(((whole,), ("choose", cond, tuple(branches))))
    return equations, whole


def leading_user(node, output, word):
    """The user that leads an output of a node alone back to an input that the output does not need.

    The input becomes a table of a stream of the user's own, which tells whether it is there, and of
    the output; so whether the input is there does not ask for the output.
    """
    called = node.main()
    kinds = dict(node.streams_at(called[0]))
    clock = output_clocks(node, called[0])[output]
    own, *words = free_words(list(kinds))
    equations = [call_of(called)]
    source = output
    if len(clock) > 0:
        cond_kind = kinds[clock[0][0]]
        more, source = brought_to_base(clock[0], cond_kind, output, kinds[output], own, words)
        equations.extend(more)
    results = (listed(kinds[word])[0],) * (count_of(YES_NO) * count_of(kinds[output]))
    equations.append(((word,), ("table", kinds[word], results, (own, source))))
    inputs = ((own, YES_NO),) + tuple([pair for pair in called[1] if pair[0] != word])
    return with_user(node, inputs, (word,), tuple(equations))
