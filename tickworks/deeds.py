"""Deeds: what they must be, and the moments that they make."""

from tickworks.alike import alike
from tickworks.errors import BadDeed, BadValue, NoPartner, Parted, UnknownName
from tickworks.faces import check_face, swift_program
from tickworks.forms import check_forms
from tickworks.rounds import first_state
from tickworks.runs import tick
from tickworks.types import is_tuple, value_fault
from tickworks.watching import led_state

# How many entries each deed has, its word counted.
ENTRIES = {"tick": 2, "swap": 2, "take": 2, "renew": 1}


def check_deed(deed):
    """BadDeed for any value that is no tuple with a deed's word and its number of entries."""
    if not is_tuple(deed, 1, 2) or not isinstance(deed[0], str) or ENTRIES.get(deed[0]) != len(deed):
        raise BadDeed()


def check_inputs(program, inputs):
    """BadValue for any value that is not one value for each of main's inputs."""
    kinds = [kind for _, kind in program.main()[1]]
    if not is_tuple(inputs, len(kinds), len(kinds)):
        raise BadValue(())
    for place, kind in enumerate(kinds):
        path = value_fault(kind, inputs[place])
        if path is not None:
            raise BadValue((place,) + path)


def after_tick(program, state, deed):
    """The moment behind a tick."""
    check_inputs(program, deed[1])
    _, told, behind = tick(program, state, deed[1])
    return (program, behind, told)


def with_node(program, node):
    """The program in which a node stands in the place of the one of its name; the errors of a swap."""
    check_forms([node])
    nodes = program.nodes()
    if node[0] not in [other[0] for other in nodes]:
        raise UnknownName(node[0])
    changed = swift_program([node if other[0] == node[0] else other for other in nodes])
    check_face(program, changed)
    return changed


def after_swap(program, state, deed):
    """The moment behind a swap."""
    changed = with_node(program, deed[1])
    return (changed, led_state(program, state, changed), None)


def partner(program, state, other):
    """The state of the other program that is paired with a state; Parted or NoPartner if there is none."""
    word, found = alike(program, other)
    if word == "parts":
        raise Parted(found)
    partners = [more for one, more in found if one == state]
    if len(partners) == 0:
        raise NoPartner()
    return partners[0]


def after_take(program, state, deed):
    """The moment behind a take."""
    other = swift_program(deed[1])
    check_face(program, other)
    return (other, partner(program, state, other), None)


def after_renew(program, state, deed):
    """The moment behind a renew."""
    return (program, first_state(program), None)


DOINGS = {"tick": after_tick, "swap": after_swap, "take": after_take, "renew": after_renew}


def moment_behind(moment, deed):
    """The moment that any value as a deed makes out of one; the errors of the deed."""
    check_deed(deed)
    program, state, _ = moment
    doing = DOINGS[deed[0]]
    return doing(program, state, deed)


def as_logged(deed):
    """A deed that was done, as the log tells it."""
    return ("take", tuple(deed[1])) if deed[0] == "take" else deed
