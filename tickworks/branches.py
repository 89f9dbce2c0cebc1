"""What the log of a plant tells of its moments, and attempts."""

from tickworks.errors import NoMoment
from tickworks.types import is_number


def check_moment(plant, number):
    """NoMoment for any value that is no number of a moment."""
    if not is_number(number) or not 0 <= number < len(plant):
        raise NoMoment(number)


def elders(plant, number):
    """The ascending list of the elders in all of a moment, whose number is any value."""
    check_moment(plant, number)
    log = plant.log()
    found = [number]
    while found[-1] > 0:
        found.append(log[found[-1] - 1][0])
    return found[::-1]


def last_common(plant, one, other):
    """The greatest number among the elders in all of two moments, whose numbers are any values."""
    found = elders(plant, one)
    more = elders(plant, other)
    return max([number for number in found if number in more])


def come_of(plant, number):
    """The ascending list of the moments among whose elders in all this one is; its number is any value."""
    check_moment(plant, number)
    found = [number]
    for place, (elder, _) in enumerate(plant.log()):
        if elder in found:
            found.append(place + 1)
    return found


def line_to(plant, number):
    """The list of the deeds that lead from moment 0 to this one, whose number is any value."""
    log = plant.log()
    return [log[elder - 1][1] for elder in elders(plant, number) if elder > 0]


def story(plant, number):
    """The list of what was told at the ticks on the way to a moment, whose number is any value."""
    told = [plant.moment(elder)[2] for elder in elders(plant, number)]
    return [outputs for outputs in told if outputs is not None]


def attempt(plant, action):
    """What an action returns that is handed the plant; if an error leaves it, the plant is as before."""
    record = plant.record
    try:
        told = action(plant)
        record = plant.record
    finally:
        plant.record = record
    return told


def tried(plant, deeds):
    """The list of the numbers of deeds done one behind the other; none is done if one of them cannot be."""
    return attempt(plant, lambda handed: [handed.do(deed) for deed in deeds])
