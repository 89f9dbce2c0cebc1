"""The errors of the package.

Each error hands its message to the base class: otherwise Python itself would
keep the arguments as they were passed, with the caller's lists and dicts.
"""

from tickworks.copies import copied


class TickError(ValueError):
    """Beneath it are all errors but those of missing names and moments."""


class TooMany(TickError):
    """A bound on how many there may be is passed."""


class BadDeed(TickError):
    """This is no deed."""


class NothingDone(TickError):
    """There is nothing to undo or to redo."""


class BadState(TickError):
    """This is no state of the program."""


class NotSwift(TickError):
    """The program is not swift."""


class OtherFace(TickError):
    """The program has another face."""


class NoPartner(TickError):
    """The present state is in no pair."""


class BadParting(TickError):
    """This is no parting of the node."""


class Parted(TickError):
    """A run parts two programs."""

    def __init__(self, inputs):
        super().__init__("these inputs part the programs")
        self.inputs = copied(inputs)


class NotYet(TickError):
    """A step cannot be done yet."""

    def __init__(self, number):
        super().__init__("the step with this number cannot be done yet")
        self.number = copied(number)


class BadNumber(TickError):
    """This is no number of a function."""

    def __init__(self, number):
        super().__init__("no function has this number")
        self.number = copied(number)


class BadType(TickError):
    """This is no type."""

    def __init__(self, path):
        super().__init__("the path leads to what is wrong")
        self.path = copied(path)


class BadValue(TickError):
    """This is no value of the type."""

    def __init__(self, path):
        super().__init__("the path leads to what is no value")
        self.path = copied(path)


class BadProgram(TickError):
    """This is no list of nodes."""

    def __init__(self, path):
        super().__init__("the path leads to what has not the right form")
        self.path = copied(path)


class BadName(TickError):
    """This name cannot be given."""

    def __init__(self, name):
        super().__init__("this name cannot be given")
        self.name = copied(name)


class TwiceTold(TickError):
    """A name stands twice."""

    def __init__(self, name):
        super().__init__("this name stands twice")
        self.name = copied(name)


class MixedTypes(TickError):
    """An equation does not fit the types of its streams."""

    def __init__(self, node, stream):
        super().__init__("the equation of this stream does not fit the types")
        self.node = copied(node)
        self.stream = copied(stream)


class Unclocked(TickError):
    """A stream is on another clock than the one that is due."""

    def __init__(self, node, stream, one, other):
        super().__init__("this stream is not on the clock that is due")
        self.node = copied(node)
        self.stream = copied(stream)
        self.one = copied(one)
        self.other = copied(other)


class Ring(TickError):
    """Streams wait for each other."""

    def __init__(self, streams):
        super().__init__("these streams wait for each other")
        self.streams = copied(streams)


class BadInputs(TickError):
    """These are no inputs of the program."""

    def __init__(self, number):
        super().__init__("the inputs with this number are none")
        self.number = copied(number)


class BadText(TickError):
    """This is no text of what is read."""

    def __init__(self, place):
        super().__init__("the text goes wrong at this place")
        self.place = copied(place)


class NameMissing(LookupError):
    """Beneath it are the errors of missing names and moments."""


class UnknownName(NameMissing):
    """Nothing has this name."""

    def __init__(self, name):
        super().__init__("nothing has this name")
        self.name = copied(name)


class NoMoment(NameMissing):
    """No moment has this number."""

    def __init__(self, number):
        super().__init__("no moment has this number")
        self.number = copied(number)
