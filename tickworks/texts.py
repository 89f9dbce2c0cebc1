"""Texts of types, values and streams, written and read back."""

from tickworks.errors import BadText, BadValue
from tickworks.types import check_type, listed, value_fault
from tickworks.words import LONGEST, is_letter

ABSENT = "-"
DEEPEST = 5


def text_of(kind):
    """The text of what is a type."""
    if kind[0] == "pair":
        return f"pair({text_of(kind[1])},{text_of(kind[2])})"
    if kind[0] == "lot":
        words = ",".join(kind[1])
        return f"lot({words})"
    return f"count({kind[1]})"


def text_of_value(value):
    """The text of what is a value of some type."""
    if isinstance(value, tuple):
        return f"({text_of_value(value[0])},{text_of_value(value[1])})"
    return str(value)


def values_by_text(kind):
    """The dict from the texts of all values of what is a type to the values."""
    return {text_of_value(value): value for value in listed(kind)}


def type_text(kind):
    """The text of a type."""
    check_type(kind)
    return text_of(kind)


def value_text(kind, value):
    """The text of a value; BadValue for any value that is none of the type."""
    check_type(kind)
    path = value_fault(kind, value)
    if path is not None:
        raise BadValue(path)
    return text_of_value(value)


def stream_text(kind, ticks):
    """The text of a stream's ticks, None for what is absent."""
    check_type(kind)
    texts = []
    for place, value in enumerate(ticks):
        path = value_fault(kind, value)
        if value is None:
            texts.append(ABSENT)
        elif path is None:
            texts.append(text_of_value(value))
        else:
            raise BadValue((place,) + path)
    return " ".join(texts)


def behind(text, at, wanted):
    """The place behind what is wanted at this place of the text."""
    for sign in wanted:
        if text[at:at + 1] != sign:
            raise BadText(at)
        at += 1
    return at


def read_word(text, at):
    """The word at this place of the text, and the place behind it."""
    end = at
    while end - at < LONGEST and is_letter(text[end:end + 1]):
        end += 1
    if end == at:
        raise BadText(at)
    return text[at:end], end


def read_lot(text, at):
    """The lot at this place of the text, and the place behind it."""
    at = behind(text, at, "lot(")
    words = []
    while len(words) < 4:
        word, at = read_word(text, at)
        words.append(word)
        if len(words) > 1 and text[at:at + 1] == ")":
            break
        if len(words) < 4:
            at = behind(text, at, ",")
    return ("lot", tuple(words)), behind(text, at, ")")


def read_count(text, at):
    """The count at this place of the text, and the place behind it."""
    at = behind(text, at, "count(")
    figure = text[at:at + 1]
    if not "2" <= figure <= "6":
        raise BadText(at)
    return ("count", int(figure)), behind(text, at + 1, ")")


def read_pair(text, at, depth):
    """The pair at this place of the text, and the place behind it."""
    first, at = read_kind(text, behind(text, at, "pair("), depth + 1)
    second, at = read_kind(text, behind(text, at, ","), depth + 1)
    return ("pair", first, second), behind(text, at, ")")


def read_kind(text, at, depth):
    """What has a type's form at this place of the text, and the place behind it."""
    sign = text[at:at + 1]
    if sign == "l":
        return read_lot(text, at)
    if sign == "c":
        return read_count(text, at)
    if sign == "p" and depth < DEEPEST:
        return read_pair(text, at, depth)
    raise BadText(at)


def check_text(text):
    """BadText for any value that is no string."""
    if not isinstance(text, str):
        raise BadText(0)


def read_type(text):
    """The type that any value as text tells."""
    check_text(text)
    kind, end = read_kind(text, 0, 1)
    if end < len(text):
        raise BadText(end)
    check_type(kind)
    return kind


def beginnings(texts):
    """The dict of all beginnings of texts, each with True."""
    return {text[:end]: True for text in texts for end in range(len(text) + 1)}


def read_value(kind, text):
    """The value that any value as text tells."""
    check_type(kind)
    check_text(text)
    values = values_by_text(kind)
    begun = beginnings(values)
    for place in range(len(text)):
        if text[:place + 1] not in begun:
            raise BadText(place)
    if text not in values:
        raise BadText(len(text))
    return values[text]


def read_stream(kind, text):
    """The list of the ticks that any value as text tells, None for what is absent."""
    check_type(kind)
    check_text(text)
    values = values_by_text(kind)
    values[ABSENT] = None
    begun = beginnings(values)
    ticks = []
    start = 0
    for place, sign in enumerate(text):
        told = text[start:place]
        if sign == " " and told in values:
            ticks.append(values[told])
            start = place + 1
        elif told + sign not in begun:
            raise BadText(place)
    if text == "":
        return []
    if text[start:] not in values:
        raise BadText(len(text))
    ticks.append(values[text[start:]])
    return ticks
