"""Plans: the work of a tick split over places."""

from tickworks.errors import UnknownName
from tickworks.planfaults import fit_fault
from tickworks.planforms import is_plan
from tickworks.sequences import order_or_ring
from tickworks.working import Work


def wants(program, stream):
    """The tuple of the streams that a stream, any value, wants."""
    work = Work(program)
    if stream not in work.streams:
        raise UnknownName(stream)
    return work.wants[stream]


def moved_by(program, stream):
    """The tuple of the streams that move a held, any value."""
    work = Work(program)
    if stream not in list(work.moved):
        raise UnknownName(stream)
    return work.moved[stream]


def judge_plan(program, value):
    """None if any value is a plan that fits the program, else the first fault."""
    work = Work(program)
    if not is_plan(work.streams, value):
        return ("form",)
    return fit_fault(work, value)


class Planning:
    """A plan while it is made: what each place does, but for puts and closes, and what it gets."""

    def __init__(self, work, where):
        self.work = work
        self.homes = dict(zip(work.streams, where))
        self.places = [[] for _ in range(1 + max(where))]
        self.got = {}

    def get_all(self, streams, place):
        """Gets those of the streams that are done elsewhere and were not got yet."""
        for stream in streams:
            if self.homes[stream] != place and (stream, place) not in self.got:
                self.got[(stream, place)] = True
                self.places[place].append(("get", stream, self.homes[stream]))

    def do_all(self):
        """Does all streams, and gets what they and the helds want."""
        _, order = order_or_ring(self.work.streams, self.work.wants)
        for stream in order:
            place = self.homes[stream]
            self.get_all(self.work.wants[stream], place)
            self.places[place].append(("do", stream))
        for held, streams in self.work.moved.items():
            self.get_all(streams, self.homes[held])

    def ends_of(self, stream):
        """The list of the places that get a stream."""
        return [place for place in range(len(self.places)) if (stream, place) in self.got]

    def actions_at(self, place):
        """The tuple of all actions of a place."""
        actions = []
        for action in self.places[place]:
            actions.append(action)
            if action[0] == "do":
                actions.extend([("put", action[1], end) for end in self.ends_of(action[1])])
        return tuple(actions + [("close",)]) if len(actions) > 0 else ()

    def made(self):
        """The plan that is made."""
        channels = [
            (stream, self.homes[stream], end, 0, 1) for stream in self.work.streams for end in self.ends_of(stream)
        ]
        return (tuple([self.actions_at(place) for place in range(len(self.places))]), tuple(channels))


def planned(program, where):
    """The plan that does each stream at the place that is told for it, in the written-out order."""
    planning = Planning(Work(program), where)
    planning.do_all()
    return planning.made()


def with_room(plan, number, room):
    """The plan with another room for the channel with this number."""
    places, channels = plan
    changed = channels[number][:4] + (room,)
    return (places, channels[:number] + (changed,) + channels[number + 1:])
