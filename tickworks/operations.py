"""The values that ops and tables have for values of their operands."""

from tickworks.types import count_of, place_in


def truth(holds):
    """The value of YES_NO for what holds or not."""
    return "yes" if holds else "no"


def compared(word, kind, one, other):
    """What same or less has for two values of one type."""
    if word == "same":
        return truth(one == other)
    return truth(place_in(kind, one) < place_in(kind, other))


def joined_truths(word, one, other):
    """What and or or has for two truths."""
    if word == "and":
        return truth(one == "yes" and other == "yes")
    return truth(one == "yes" or other == "yes")


def op_value(word, kinds, values):
    """The value of an op for values of operands of these types."""
    if word == "not":
        return truth(values[0] == "no")
    if word == "first":
        return values[0][0]
    if word == "second":
        return values[0][1]
    one, other = values
    if word == "pair":
        return (one, other)
    if word == "plus":
        return (one + other) % kinds[0][1]
    if word in ("and", "or"):
        return joined_truths(word, one, other)
    return compared(word, kinds[0], one, other)


def table_value(results, kinds, values):
    """The result of a table for values of operands of these types."""
    place = 0
    for kind, value in zip(kinds, values):
        place = place * count_of(kind) + place_in(kind, value)
    return results[place]


def value_by(right, kinds, values):
    """The value of an op or a table for values of operands of these types."""
    if right[0] == "op":
        return op_value(right[1], kinds, values)
    return table_value(right[2], kinds, values)
