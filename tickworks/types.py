"""Types, their values, and the places of these."""

from tickworks.errors import BadType, BadValue
from tickworks.words import is_word

YES_NO = ("lot", ("no", "yes"))

MOST_TUPLES = 5
MOST_VALUES = 24


def is_number(value):
    """Whether any value is an integer, which True and False are not."""
    return isinstance(value, int) and not isinstance(value, bool)


def is_tuple(value, least, most):
    """Whether any value is a tuple of so many parts."""
    return isinstance(value, tuple) and least <= len(value) <= most


def are_different(values):
    """Whether no two of the values are equal."""
    return all([value not in values[:place] for place, value in enumerate(values)])


def is_lot(value):
    """Whether a tuple of two parts has the form of a lot."""
    words = value[1]
    return is_tuple(words, 2, 4) and all([is_word(word) for word in words]) and are_different(words)


def has_form(value):
    """Whether any value has the own form of a type, its parts aside."""
    if not is_tuple(value, 2, 3):
        return False
    if len(value) == 3:
        return value[0] == "pair"
    if value[0] == "lot":
        return is_lot(value)
    return value[0] == "count" and is_number(value[1]) and 2 <= value[1] <= 6


def form_path(value, path):
    """The path to the first thing in any value that has not the form of a type, or None."""
    if not has_form(value):
        return path
    if value[0] != "pair":
        return None
    found = form_path(value[1], path + (1,))
    if found is None:
        found = form_path(value[2], path + (2,))
    return found


def tuples_in(kind):
    """How many tuples a type is made of, tuples of words aside."""
    if kind[0] == "pair":
        return 1 + tuples_in(kind[1]) + tuples_in(kind[2])
    return 1


def count_of(kind):
    """How many values there are; of a pair also where it is too great for a type."""
    if kind[0] == "pair":
        return count_of(kind[1]) * count_of(kind[2])
    if kind[0] == "lot":
        return len(kind[1])
    return kind[1]


def rows_over(kinds):
    """How many rows of values there are, over these types."""
    rows = 1
    for kind in kinds:
        rows = rows * count_of(kind)
    return rows


def type_fault(value):
    """The path of BadType for any value, or None if it is a type."""
    path = form_path(value, ())
    if path is not None:
        return path
    if tuples_in(value) > MOST_TUPLES or count_of(value) > MOST_VALUES:
        return ()
    return None


def check_type(value):
    """None if any value is a type; else BadType."""
    path = type_fault(value)
    if path is not None:
        raise BadType(path)


def listed(kind):
    """The list of all values of what is a type, by their places."""
    if kind[0] == "pair":
        seconds = listed(kind[2])
        return [(first, second) for first in listed(kind[1]) for second in seconds]
    if kind[0] == "lot":
        return list(kind[1])
    return list(range(kind[1]))


def part_fault(kind, value, path):
    """The path to the first thing in any value that is wrong for this type, or None."""
    if kind[0] == "lot":
        fits = isinstance(value, str) and value in kind[1]
        return None if fits else path
    if kind[0] == "count":
        fits = is_number(value) and 0 <= value < kind[1]
        return None if fits else path
    if not is_tuple(value, 2, 2):
        return path
    found = part_fault(kind[1], value[0], path + (0,))
    if found is None:
        found = part_fault(kind[2], value[1], path + (1,))
    return found


def value_fault(kind, value):
    """The path of BadValue for any value, or None if it is a value of what is a type."""
    return part_fault(kind, value, ())


def place_in(kind, value):
    """The place of what is a value of what is a type."""
    if kind[0] == "pair":
        return place_in(kind[1], value[0]) * count_of(kind[2]) + place_in(kind[2], value[1])
    if kind[0] == "lot":
        return kind[1].index(value)
    return value


def values_of(kind):
    """The list of all values of a type, by their places."""
    check_type(kind)
    return listed(kind)


def many(kind):
    """How many values a type has."""
    check_type(kind)
    return count_of(kind)


def value_at(kind, place):
    """The value that has this place."""
    check_type(kind)
    return listed(kind)[place]


def is_value(kind, value):
    """Whether any value is one of the type."""
    check_type(kind)
    return value_fault(kind, value) is None


def place_of(kind, value):
    """The place of a value; BadValue for any value that is none of the type."""
    check_type(kind)
    path = value_fault(kind, value)
    if path is not None:
        raise BadValue(path)
    return place_in(kind, value)
