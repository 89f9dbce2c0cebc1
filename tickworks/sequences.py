"""Things that ask for each other: what is reached from some, and orders and rings of all."""


def each_once(things):
    """The tuple of some strings, each once, where it stands first."""
    found = {thing: True for thing in things}
    return tuple(found)


def reached(asked, begun):
    """The dict, each with True, of what these ask for, straight or through others; asked tells what each asks for."""
    met = {}
    waiting = list(begun)
    while len(waiting) > 0:
        point = waiting.pop()
        fresh = [other for other in asked.get(point, ()) if other not in met]
        for other in fresh:
            met[other] = True
        waiting.extend(fresh)
    return met


def ring_found(points, asked, taken):
    """The ring that is met on the way from the first point that was not taken."""
    left = [point for point in points if point not in taken]
    way = []
    point = left[0]
    while point not in way:
        way.append(point)
        further = [other for other in asked[point] if other not in taken]
        point = further[0]
    return tuple(way[way.index(point):])


def order_or_ring(points, asked):
    """("order", all points) or ("ring", some of them), tuples; asked lists for each point those it asks for.

    Again and again the first point is taken that asks for taken ones alone.
    """
    taken = {}
    while len(taken) < len(points):
        free = [
            point for point in points
            if point not in taken and all([other in taken for other in asked[point]])
        ]
        if len(free) == 0:
            return ("ring", ring_found(points, asked, taken))
        taken[free[0]] = True
    return ("order", tuple(taken))
