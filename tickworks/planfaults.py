"""What keeps a plan from fitting a program."""


def done_fault(work, plan):
    """("done", stream) for the first stream that is not done just once in all, or None."""
    actions = [action for place in plan[0] for action in place]
    for stream in work.streams:
        if actions.count(("do", stream)) != 1:
            return ("done", stream)
    return None


def is_led(places, channel):
    """Whether a channel has just one put, behind the do of its stream, and just one get."""
    stream, start, end, _, _ = channel
    put, got = ("put", stream, end), ("get", stream, start)
    if places[start].count(put) != 1 or places[end].count(got) != 1:
        return False
    return ("do", stream) in places[start][:places[start].index(put)]


def channel_fault(work, plan):
    """("channel", k) for the first channel that is not led as it must be, or None."""
    places, channels = plan
    for number, channel in enumerate(channels):
        if not is_led(places, channel):
            return ("channel", number)
    return None


def loose_fault(work, plan):
    """("loose", p, k) for the first get or put without a channel, or None."""
    places, channels = plan
    led = [("put", stream, start, end) for stream, start, end, _, _ in channels]
    led.extend([("get", stream, end, start) for stream, start, end, _, _ in channels])
    for place, actions in enumerate(places):
        for number, action in enumerate(actions):
            if action[0] in ("put", "get") and (action[0], action[1], place, action[2]) not in led:
                return ("loose", place, number)
    return None


def close_fault(work, plan):
    """("close", p, k) for the first place whose last action alone is not close, or None."""
    for place, actions in enumerate(plan[0]):
        if ("close",) in actions[:-1]:
            return ("close", place, actions.index(("close",)))
        if len(actions) > 0 and actions[-1] != ("close",):
            return ("close", place, len(actions))
    return None


def late_at(plan, place):
    """The list of the streams that come to a place by late channels."""
    return [stream for stream, _, end, late, _ in plan[1] if end == place and late == 1]


def wanted_by(work, actions, action, late):
    """The list of the streams that an action wants where these come late, and these are a place's actions."""
    if action[0] == "do":
        return list(work.wants[action[1]])
    wanted = []
    if action[0] == "close":
        for held in work.helds_in(actions):
            own = work.rights[held][3]
            if own not in late:
                wanted.append(own)
            wanted.extend(work.again_conds(held))
    return wanted


def wants_fault(work, plan):
    """("wants", p, k, stream) for the first action that wants a stream in vain, or None."""
    for place, actions in enumerate(plan[0]):
        late = late_at(plan, place)
        known = []
        for number, action in enumerate(actions):
            lacking = [stream for stream in wanted_by(work, actions, action, late) if stream not in known]
            if len(lacking) > 0:
                return ("wants", place, number, lacking[0])
            if action[0] == "do" or (action[0] == "get" and action[1] not in late):
                known.append(action[1])
    return None


def is_moving(work, places, channel):
    """Whether a late channel's get moves memories, and those alone that it can move."""
    stream, start, end, _, _ = channel
    actions = places[end]
    ahead = actions[:actions.index(("get", stream, start))]
    helds = work.helds_moved_by(stream, actions)
    wrong = [held for held in helds if len(work.rights[held][5]) > 0 or ("do", held) in ahead]
    return len(helds) > 0 and len(wrong) == 0


def late_fault(work, plan):
    """("late", k) for the first late channel that does not move memories as it must, or None."""
    places, channels = plan
    for number, channel in enumerate(channels):
        if channel[3] == 1 and not is_moving(work, places, channel):
            return ("late", number)
    return None


FAULTS = (done_fault, channel_fault, loose_fault, close_fault, wants_fault, late_fault)


def fit_fault(work, plan):
    """The first thing that keeps a plan from fitting, or None."""
    for fault_in in FAULTS:
        fault = fault_in(work, plan)
        if fault is not None:
            return fault
    return None
