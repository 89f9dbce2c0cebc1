"""Boards: how far the places of a plan went, and how many tokens its channels hold."""


def actions_of(plan):
    """The list of all actions (p, k) of a plan, by places, then by their sequence."""
    return [(place, number) for place, actions in enumerate(plan[0]) for number in range(len(actions))]


def ends_of(plan, channel):
    """The pair of a channel's put and its get, as actions (p, k)."""
    stream, start, end, _, _ = channel
    put = plan[0][start].index(("put", stream, end))
    got = plan[0][end].index(("get", stream, start))
    return (start, put), (end, got)


class Board:
    """How many actions each place of a plan has done, and how many tokens each channel holds."""

    def __init__(self, plan):
        self.plan = plan
        self.done = [0 for _ in plan[0]]
        self.tokens = [late for _, _, _, late, _ in plan[1]]
        self._puts = {}
        self._gets = {}
        for number, channel in enumerate(plan[1]):
            put, got = ends_of(plan, channel)
            self._puts[put] = number
            self._gets[got] = number

    def next_action(self, place):
        """The number of the action that comes next at a place with actions."""
        return self.done[place] % len(self.plan[0][place])

    def put_by(self, place):
        """The number of the channel into which the next action of a place with actions puts, or None."""
        return self._puts.get((place, self.next_action(place)))

    def got_by(self, place):
        """The number of the channel from which the next action of a place with actions gets, or None."""
        return self._gets.get((place, self.next_action(place)))

    def can_act(self, place):
        """Whether a place has actions, and the next one waits for no token and no room."""
        if len(self.plan[0][place]) == 0:
            return False
        put, got = self.put_by(place), self.got_by(place)
        if put is not None:
            return self.tokens[put] < self.plan[1][put][4]
        return got is None or self.tokens[got] > 0

    def act(self, place):
        """Does the next action of a place that can act."""
        put, got = self.put_by(place), self.got_by(place)
        if put is not None:
            self.tokens[put] += 1
        if got is not None:
            self.tokens[got] -= 1
        self.done[place] += 1
