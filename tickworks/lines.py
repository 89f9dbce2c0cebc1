"""The lines of a written program, each read by itself."""

from tickworks.errors import BadText, BadType
from tickworks.shapes import SHAPES
from tickworks.texts import read_type, values_by_text
from tickworks.words import is_word


class Line:
    """A line whose tokens are taken one behind the other; BadText has its number."""

    def __init__(self, text, number):
        self._tokens = text.split(" ")
        self._number = number

    def check(self, holds):
        """BadText if this does not hold of the line."""
        if not holds:
            raise BadText(self._number)

    def has(self, token):
        """Whether the token stands among those that are left."""
        return token in self._tokens

    def left(self):
        """How many tokens are left."""
        return len(self._tokens)

    def take(self):
        """The next token."""
        self.check(len(self._tokens) > 0)
        token = self._tokens[0]
        self._tokens = self._tokens[1:]
        return token

    def take_mark(self, mark):
        """Goes behind the mark that stands next."""
        self.check(self.take() == mark)

    def word(self):
        """The next token, a word."""
        token = self.take()
        self.check(is_word(token))
        return token

    def before(self, mark):
        """The list of the tokens up to the next mark, or to the end: at least one."""
        end = self._tokens.index(mark) if mark in self._tokens else len(self._tokens)
        found = self._tokens[:end]
        self._tokens = self._tokens[end:]
        self.check(len(found) > 0)
        return found

    def words(self, mark):
        """The tuple of the words up to the next mark, or to the end: at least one."""
        found = self.before(mark)
        self.check(all([is_word(token) for token in found]))
        return tuple(found)

    def kind(self):
        """The next token, a type."""
        token = self.take()
        try:
            return read_type(token)
        except (BadText, BadType):
            raise BadText(self._number) from None

    def value(self, kind):
        """The next token, a value of the type."""
        values = values_by_text(kind)
        token = self.take()
        self.check(token in values)
        return values[token]

    def results(self, kind):
        """The tuple of the values up to the next colon, which is gone behind."""
        values = values_by_text(kind)
        found = self.before(":")
        self.check(all([token in values for token in found]))
        self.take_mark(":")
        return tuple([values[token] for token in found])

    def again(self):
        """What stands behind a call's args: None, or the pair of a cond and a word."""
        if self.left() == 0:
            return None
        self.take_mark(":")
        return (self.word(), self.word())


def read_part(line, role, kind):
    """The next part of a right side; kind is the part ahead, a type if there is one."""
    if role == "kind":
        return line.kind()
    if role == "value":
        return line.value(kind)
    if role == "results":
        return line.results(kind)
    if role == "streams":
        return line.words(":")
    if role == "again":
        return line.again()
    return line.word()


def read_right(line):
    """The right side that is left in the line."""
    word = line.take()
    line.check(word in SHAPES)
    right = (word,)
    for role in SHAPES[word]:
        right = right + (read_part(line, role, right[-1]),)
    return right


def read_equation(line):
    """The equation in the line."""
    names = line.words("=")
    line.take_mark("=")
    return (names, read_right(line))


def read_line(text, number):
    """A pair: what the line is ("node", "in", "out" or "equation"), and what it tells."""
    line = Line(text, number)
    if line.has("="):
        told = ("equation", read_equation(line))
    else:
        word = line.take()
        line.check(word in ("node", "in", "out"))
        if word == "node":
            told = (word, line.word())
        elif word == "in":
            told = (word, (line.word(), line.kind()))
        else:
            told = (word, line.words(":"))
    line.check(line.left() == 0)
    return told
