"""Plans by the words of part 8: what fits, what waits for what, and how they run; and plans that are drawn."""

from tickworks.clocks import written_clocks
from tickworks.plans import planned
from tickworks.runs import tick
from tickworks.rounds import filling, first_state
from tickworks.written import helds_of, written_out


def wanted(made, stream):
    """The list of what a stream wants, by [8.1]."""
    right = dict(written_out(made))[stream]
    found = [cond for cond, _ in written_clocks(made)[stream]]
    if right[0] in ("op", "table"):
        found += right[-1]
    if right[0] == "when":
        found += right[1:3]
    if right[0] == "choose":
        found += [right[1], *right[2]]
    if right[0] == "as":
        found.append(right[1])
    if right[0] == "arg":
        found.append(right[1][right[2]])
    return list(dict.fromkeys(found))


def moving(made, held):
    """The list of what moves a held, by [8.1]."""
    right = dict(written_out(made))[held]
    return list(dict.fromkeys([right[3]] + [cond for cond, _ in right[5]]))


def fault_by_words(made, plan):
    """The first fault of a plan in form, by [8.3]."""
    places, channels = plan
    rights = dict(written_out(made))
    for stream in rights:
        if sum(actions.count(("do", stream)) for actions in places) != 1:
            return ("done", stream)
    for k, (stream, start, end, _, _) in enumerate(channels):
        puts = [n for n, action in enumerate(places[start]) if action == ("put", stream, end)]
        gets = [n for n, action in enumerate(places[end]) if action == ("get", stream, start)]
        dos = [n for n, action in enumerate(places[start]) if action == ("do", stream)]
        if len(puts) != 1 or len(gets) != 1 or not dos or dos[0] > puts[0]:
            return ("channel", k)
    for p, actions in enumerate(places):
        for k, action in enumerate(actions):
            for stream, start, end, _, _ in channels:
                if action in [("put", stream, end)] and p == start or action == ("get", stream, start) and p == end:
                    break
            else:
                if action[0] in ("put", "get"):
                    return ("loose", p, k)
    for p, actions in enumerate(places):
        closes = [k for k, action in enumerate(actions) if action == ("close",)]
        if actions and closes != [len(actions) - 1]:
            return ("close", p, closes[0] if closes and closes[0] < len(actions) - 1 else len(actions))
    for p, actions in enumerate(places):
        for k, action in enumerate(actions):
            for stream in wants_at(made, plan, p, action):
                if not is_known(plan, p, k, stream):
                    return ("wants", p, k, stream)
    for k, (stream, start, end, late, _) in enumerate(channels):
        if late:
            actions = places[end]
            helds = [s for s, right in rights.items()
                     if right[0] == "held" and right[3] == stream and ("do", s) in actions]
            got = actions.index(("get", stream, start))
            if not helds or any(rights[s][5] or actions.index(("do", s)) < got for s in helds):
                return ("late", k)
    return None


def wants_at(made, plan, p, action):
    """What an action of a place wants, in order."""
    if action[0] == "do":
        return wanted(made, action[1])
    found = []
    if action[0] == "close":
        for stream, right in written_out(made):
            if right[0] == "held" and ("do", stream) in plan[0][p]:
                if not any(s == right[3] and end == p and late for s, _, end, late, _ in plan[1]):
                    found.append(right[3])
                found += [cond for cond, _ in right[5]]
    return found


def is_known(plan, p, k, stream):
    """Whether a stream is done, or got in time, ahead of an action."""
    for action in plan[0][p][:k]:
        if action == ("do", stream):
            return True
        if action[:2] == ("get", stream) and (stream, action[2], p, 0) in [channel[:4] for channel in plan[1]]:
            return True
    return False


def arcs_by_words(plan):
    """The list of the arcs, by [8.4]."""
    places, channels = plan
    found = []
    for p, actions in enumerate(places):
        for k in range(len(actions)):
            if k + 1 < len(actions):
                found.append(((p, k), (p, k + 1), 0))
            else:
                found.append(((p, k), (p, 0), 1))
    for stream, start, end, late, room in channels:
        put = (start, places[start].index(("put", stream, end)))
        got = (end, places[end].index(("get", stream, start)))
        found += [(put, got, 1 if late else 0), (got, put, room - late)]
    return found


def shuffled(sequence, chance):
    """A list of the same things in a drawn order."""
    found = list(sequence)
    chance.shuffle(found)
    return found


class Player:
    """A plan played action by action: tokens are lists, and each tick's values those of its least filling."""

    def __init__(self, plan):
        self.places, self.channels = plan
        self.queues = {channel[:3]: ["empty"] * channel[3] for channel in self.channels}
        self.rooms = {channel[:3]: channel[4] for channel in self.channels}
        self.counts = [0] * len(self.places)
        self.done = [[] for _ in self.places]

    def now(self, p):
        """The next action of a place, and the key of its channel, if it has one."""
        action = self.places[p][self.counts[p] % len(self.places[p])]
        key = {"put": (action[1], p, action[-1]), "get": (action[1], action[-1], p)}.get(
            action[0]) if len(action) == 3 else None
        return action, key

    def can(self, p, ticks=None):
        """Whether a place can act, in so many ticks at most."""
        if not self.places[p] or (ticks is not None and self.counts[p] >= ticks * len(self.places[p])):
            return False
        action, key = self.now(p)
        if action[0] == "put":
            return len(self.queues[key]) < self.rooms[key]
        return action[0] != "get" or bool(self.queues[key])

    def act(self, p):
        """Does the next action of a place that can act."""
        action, key = self.now(p)
        if action[0] == "put":
            self.queues[key].append(action[1])
        if action[0] == "get":
            self.queues[key].pop(0)
        self.done[p].append(action)
        self.counts[p] += 1


def told_by_words(made, plan, inputs, schedule):
    """What run_plan tells, by a player and by what the ticks tell."""
    player = Player(plan)
    for p in schedule:
        if player.can(p, len(inputs)):
            player.act(p)
    outputs, state = [], first_state(made)
    for row in inputs:
        outputs.append(filling(made, state, row))
        state = tick(made, state, row)[2]
    told = {}
    for output in made.main()[2]:
        done = [p for p, actions in enumerate(player.done) for action in actions if action == ("do", output)]
        values = [found[output] for found in outputs[:len(done)]]
        told[output] = [value[1] if value[0] == "value" else None for value in values]
    return told, tuple(player.counts)


def drawn_where(made, chance, most=3):
    """Drawn places for all streams of a program; helds stand apart from the rest at times."""
    last = chance.randint(0, most)
    where = [chance.randint(0, last) for _ in written_out(made)]
    if chance.random() < 0.5 and last > 0:
        helds = helds_of(made)
        return [last if stream in helds else min(place, last - 1) for (stream, _), place in zip(written_out(made), where)]
    return where


def stirred(made, plan, chance):
    """A plan that fits with the actions of each place in a drawn order in which it still fits."""
    for p, actions in enumerate(plan[0]):
        for _ in range(2 * len(actions)):
            k = chance.randrange(len(actions))
            j = chance.randrange(len(actions))
            moved = list(actions)
            moved.insert(j, moved.pop(k))
            found = (plan[0][:p] + (tuple(moved),) + plan[0][p + 1:], plan[1])
            if fault_by_words(made, found) is None:
                plan, actions = found, tuple(moved)
    return plan


def with_late(made, plan, chance):
    """A plan in which channels come late where they may, and have drawn rooms."""
    for k in range(len(plan[1])):
        stream, start, end, _, _ = plan[1][k]
        room = chance.randint(1, 4)
        channels = plan[1][:k] + ((stream, start, end, 0, room),) + plan[1][k + 1:]
        plan = (plan[0], channels)
        late = (plan[0], plan[1][:k] + ((stream, start, end, 1, room),) + plan[1][k + 1:])
        actions = [action for action in plan[0][end] if action != ("get", stream, start)]
        for at in shuffled(range(len(actions)), chance):
            moved = (*actions[:at], ("get", stream, start), *actions[at:])
            bent = (plan[0][:end] + (moved,) + plan[0][end + 1:], late[1])
            if chance.random() < 0.8 and fault_by_words(made, bent) is None:
                plan = bent
                break
    return plan


def drawn_plan(made, chance, most=3):
    """A plan that fits, at drawn places, perhaps with late channels, or with rings."""
    plan = planned(made, drawn_where(made, chance, most))
    if chance.random() < 0.7:
        plan = with_late(made, plan, chance)
    return stirred(made, plan, chance) if chance.random() < 0.4 else plan


def most_tokens(plan, number, most=40000):
    """The greatest number of tokens that a channel holds in any schedule, by a search; None if it is too far."""
    places, channels = plan
    arcs = arcs_by_words(plan)
    at = {}
    for k, (source, target, _) in enumerate(arcs):
        at.setdefault(source, ([], []))[0].append(k)
        at.setdefault(target, ([], []))[1].append(k)
    wanted_arc = len(arcs) - 2 * len(channels) + 2 * number
    begun = tuple(tokens for _, _, tokens in arcs)
    # A place stands at its next action, which is told by its own arcs: the one into it has the token.
    met, waiting, best = {begun}, [begun], begun[wanted_arc]
    while waiting:
        state = waiting.pop()
        for p, actions in enumerate(places):
            for k in range(len(actions)):
                out, into = at[(p, k)]
                if all(state[arc] > 0 for arc in into):
                    found = list(state)
                    for arc in into:
                        found[arc] -= 1
                    for arc in out:
                        found[arc] += 1
                    found = tuple(found)
                    if found not in met:
                        met.add(found)
                        waiting.append(found)
                        best = max(best, found[wanted_arc])
        if len(met) > most:
            return None
    return best
