"""Arcs: what waits for what in a plan, and what comes of it."""

from tickworks.boards import Board, actions_of, ends_of
from tickworks.sequences import order_or_ring, reached
from tickworks.types import is_number, is_tuple


def arcs(plan):
    """The tuple of all arcs ((p, k), (q, j), tokens): those within places, then those of channels."""
    found = []
    for place, actions in enumerate(plan[0]):
        last = len(actions) - 1
        found.extend([((place, number), (place, number + 1), 0) for number in range(last)])
        if last >= 0:
            found.append(((place, last), (place, 0), 1))
    for channel in plan[1]:
        put, got = ends_of(plan, channel)
        late, room = channel[3:]
        found.append((put, got, late))
        found.append((got, put, room - late))
    return tuple(found)


def sources_in(plan, places):
    """The dict from the actions of some places to the lists of those from which an arc of 0 tokens goes to them."""
    found = {action: [] for action in actions_of(plan) if action[0] in places}
    for source, action, tokens in arcs(plan):
        if tokens == 0 and action in found:
            found[action].append(source)
    return found


def flow_in(plan, places):
    """What flows tells of some places, of which no channel leads to other ones."""
    sources = sources_in(plan, places)
    word, found = order_or_ring(list(sources), sources)
    # Each action of the ring waits for the next one, so the arcs go the other way.
    return ("goes", found) if word == "order" else ("ring", found[::-1])


def flows(plan):
    """("goes", all actions) or ("ring", actions)."""
    return flow_in(plan, list(range(len(plan[0]))))


def are_actions(known, value):
    """Whether any value is a tuple of actions (p, k) of these, which are a dict's keys."""
    return isinstance(value, tuple) and all([is_known(known, action) for action in value])


def is_known(known, value):
    """Whether any value is one of these actions (p, k), which are a dict's keys."""
    return is_tuple(value, 2, 2) and all([is_number(part) for part in value]) and value in known


def goes_by(sources, value):
    """Whether a tuple of actions has all of them once, each behind those from which an arc goes to it."""
    met = {}
    for action in value:
        if action in met or not all([source in met for source in sources[action]]):
            return False
        met[action] = True
    return len(met) == len(sources)


def is_ring(sources, value):
    """Whether a tuple of actions is of different ones, from each of which an arc goes to the next one."""
    met = {action: True for action in value}
    if len(value) == 0 or len(met) < len(value):
        return False
    following = value[1:] + value[:1]
    return all([source in sources[action] for source, action in zip(value, following)])


def judge_flow(plan, value):
    """None if any value is what flows can tell, else the fault."""
    sources = sources_in(plan, list(range(len(plan[0]))))
    if is_tuple(value, 2, 2) and are_actions(sources, value[1]):
        if value[0] == "goes" and goes_by(sources, value[1]):
            return None
        if value[0] == "ring" and is_ring(sources, value[1]):
            return None
    return ("form",)


def groups(plan):
    """The tuple of the tuples of places that channels join, also through others."""
    joined = {place: [] for place in range(len(plan[0]))}
    for _, start, end, _, _ in plan[1]:
        joined[start].append(end)
        joined[end].append(start)
    found = []
    for place in joined:
        met = reached(joined, [place])
        group = tuple([other for other in joined if other == place or other in met])
        if group[0] == place:
            found.append(group)
    return tuple(found)


def stood_still(plan, group):
    """The dict from the places of a group with a ring to how many actions each does until it stands still."""
    board = Board(plan)
    acting = list(group)
    while len(acting) > 0:
        for place in acting:
            while board.can_act(place):
                board.act(place)
        acting = [place for place in group if board.can_act(place)]
    return {place: board.done[place] for place in group}


def stops(plan):
    """The tuple with None for each place that goes on, else with how many actions it does in all."""
    told = {}
    for group in groups(plan):
        if len(plan[0][group[0]]) == 0:
            told[group[0]] = 0
        elif flow_in(plan, group)[0] == "ring":
            told.update(stood_still(plan, group))
    return tuple([told.get(place) for place in range(len(plan[0]))])


def ways_from(plan, begun):
    """The dict from the actions that arcs lead to, from one on, to (tokens, action ahead), tokens the fewest."""
    found = {begun: (0, None)}
    joined = arcs(plan)
    changed = True
    while changed:
        changed = False
        for source, action, tokens in joined:
            if source in found:
                much = found[source][0] + tokens
                if action not in found or much < found[action][0]:
                    found[action] = (much, source)
                    changed = True
    return found


def fullest_ring(plan, put, got):
    """The ring of a channel's put and get on which there are the fewest tokens."""
    ways = ways_from(plan, got)
    ring = []
    action = ways[put][1]
    while action is not None:
        ring.append(action)
        action = ways[action][1]
    return (put,) + tuple(ring[::-1])


def first_gap(plan, ring):
    """The number of the first action of a ring from which no arc goes to the next one, or None."""
    joined = {(source, action): True for source, action, _ in arcs(plan)}
    for number, pair in enumerate(zip(ring, ring[1:] + ring[:1])):
        if pair not in joined:
            return number
    return None


def tokens_on(plan, ring):
    """The sum of the tokens on the arcs of a ring without gaps."""
    tokens = {(source, action): many for source, action, many in arcs(plan)}
    return sum([tokens[pair] for pair in zip(ring, ring[1:] + ring[:1])])


def fullest_schedule(plan, number, most):
    """The tuple of places by which a channel comes to hold the most tokens."""
    # Whatever goes on without the get fills the channel as much as anything can.
    end, got = ends_of(plan, plan[1][number])[1]
    group = [places for places in groups(plan) if end in places][0]
    board = Board(plan)
    schedule = []
    while board.tokens[number] < most:
        for place in group:
            if board.can_act(place) and (place != end or board.done[place] < got):
                board.act(place)
                schedule.append(place)
    return tuple(schedule)


def fills(plan, number):
    """(most, ring, schedule): the most tokens that a channel holds, and what shows it."""
    put, got = ends_of(plan, plan[1][number])
    ring = fullest_ring(plan, put, got)
    most = tokens_on(plan, ring)
    return (most, ring, fullest_schedule(plan, number, most))


def is_fill(plan, number, value):
    """Whether any value has the form of what fills tells."""
    known = {action: True for action in actions_of(plan)}
    if not is_tuple(value, 3, 3) or not is_number(value[0]) or not are_actions(known, value[1]):
        return False
    if value[1][:2] != ends_of(plan, plan[1][number]) or not isinstance(value[2], tuple):
        return False
    return all([is_number(place) and 0 <= place < len(plan[0]) for place in value[2]])


def judge_fill(plan, number, value):
    """None if any value shows the most tokens that a channel holds, else the first fault."""
    if not is_fill(plan, number, value):
        return ("form",)
    most, ring, schedule = value
    gap = first_gap(plan, ring)
    if gap is not None:
        return ("ring", gap)
    if tokens_on(plan, ring) != most:
        return ("sum",)
    board = Board(plan)
    for step, place in enumerate(schedule):
        if not board.can_act(place):
            return ("step", step)
        board.act(place)
    return None if board.tokens[number] == most else ("holds",)
