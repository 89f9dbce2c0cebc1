"""The forms of plans."""

from tickworks.types import is_number, is_tuple

MOST_PLACES = 4
MOST_ROOM = 4

# How many parts each action has, its first word counted.
ACTIONS = {"do": 2, "put": 3, "get": 3, "close": 1}


def is_within(value, least, most):
    """Whether any value is a number from the least to the most."""
    return is_number(value) and least <= value <= most


def is_stream(streams, value):
    """Whether any value is one of the streams."""
    return isinstance(value, str) and value in streams


def is_action(streams, value, own, many):
    """Whether any value is an action of the place with this number, among so many places."""
    if not is_tuple(value, 1, 3) or not isinstance(value[0], str):
        return False
    if ACTIONS.get(value[0]) != len(value):
        return False
    if value[0] == "close":
        return True
    if not is_stream(streams, value[1]):
        return False
    return value[0] == "do" or (is_within(value[2], 0, many - 1) and value[2] != own)


def are_actions(streams, value, own, many):
    """Whether any value is a tuple of actions of the place with this number, among so many places."""
    return isinstance(value, tuple) and all([is_action(streams, action, own, many) for action in value])


def is_channel(streams, value, many):
    """Whether any value is a channel between two of so many places."""
    if not is_tuple(value, 5, 5) or not is_stream(streams, value[0]):
        return False
    _, start, end, late, room = value
    if not is_within(start, 0, many - 1) or not is_within(end, 0, many - 1) or start == end:
        return False
    return is_within(late, 0, 1) and is_within(room, 1, MOST_ROOM)


def is_plan(streams, value):
    """Whether any value is a plan with these streams."""
    if not is_tuple(value, 2, 2) or not is_tuple(value[0], 1, MOST_PLACES) or not isinstance(value[1], tuple):
        return False
    places, channels = value
    many = len(places)
    if not all([are_actions(streams, actions, place, many) for place, actions in enumerate(places)]):
        return False
    if not all([is_channel(streams, channel, many) for channel in channels]):
        return False
    ends = {(stream, end): True for stream, _, end, _, _ in channels}
    return len(ends) == len(channels)
