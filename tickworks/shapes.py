"""The parts of right sides, and what each of them is for.

A shape tells for each part behind a right side's first word its role: "kind" a
type, "value" a value of it, "results" values of it, "op" an op's word, "word" a
word that is no stream, "stream" one operand, "streams" operands, "again" None or
an operand and a word.
"""

SHAPES = {
    "const": ("kind", "value", "stream"),
    "op": ("op", "streams"),
    "table": ("kind", "results", "streams"),
    "held": ("kind", "value", "stream", "stream"),
    "when": ("stream", "stream", "word"),
    "choose": ("stream", "streams"),
    "call": ("word", "streams", "again"),
}

# What stands in written-out rows alone: no equation of a node may have these.
ADDED_SHAPES = {
    "input": ("kind",),
    "arg": ("streams", "place"),
    "as": ("stream",),
}

# How many operands each op has.
OPS = {
    "not": 1, "first": 1, "second": 1,
    "and": 2, "or": 2, "same": 2, "less": 2, "plus": 2, "pair": 2,
}


def parts_of(right):
    """The list of the pairs (role, part) of a right side, behind its first word."""
    word = right[0]
    shape = SHAPES[word] if word in SHAPES else ADDED_SHAPES[word]
    return list(zip(shape, right[1:]))


def operands(right):
    """The list of the operands of a right side, in the order in which they stand."""
    found = []
    for role, part in parts_of(right):
        if role == "stream":
            found.append(part)
        elif role == "streams":
            found.extend(part)
        elif role == "again" and part is not None:
            found.append(part[0])
    return found


def moved(part, role, path):
    """A part of a right side with the path ahead of its streams."""
    if role == "stream":
        return path + part
    if role == "streams":
        return tuple([path + word for word in part])
    return part


def behind_path(right, path):
    """A right side, but of a call, with the path ahead of all its streams."""
    parts = [moved(part, role, path) for role, part in parts_of(right)]
    return (right[0], *parts)


def telling(right):
    """The operand that tells whether there is what a right side names; of no input."""
    found = operands(right)
    if right[0] == "held":
        return found[-1]
    return found[right[2]] if right[0] == "arg" else found[0]


def worked_from(right):
    """The list of the operands that the value of a written-out right side is worked out from."""
    if right[0] in ("const", "held", "input"):
        return []
    return [telling(right)] if right[0] == "arg" else operands(right)
