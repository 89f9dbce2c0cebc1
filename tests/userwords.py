"""Users of nodes, by the words of [7.5] and [7.6]; and users that are drawn."""

import random

from drawn import Draw, swift_programs
from tickworks.clocks import clocks, output_clocks
from tickworks.errors import TickError
from tickworks.needs import stream_asks
from tickworks.nodes import Program
from tickworks.orders import is_swift
from tickworks.partings import asked_functions


def conds(clock):
    """The conds of a clock."""
    return [cond for cond, _ in clock]


def graph_by_words(program, name, parting, user):
    """The dict from the points of a user's graph to the sets of the points that they ask for."""
    main = user.main()
    told = clocks(user, main[0])
    called = program.node_at(name)
    asked, functions = stream_asks(program, name), asked_functions(program, name, parting)
    graph = {}
    for names, right in main[3]:
        if right[0] == "call":
            args = right[2]
            for number, function in enumerate(parting):
                wanted = {(names, other) for other in functions[number]}
                for stream in function:
                    for place, (word, _) in enumerate(called[1]):
                        if word in asked[stream]:
                            wanted.add(args[place])
                graph[(names, number)] = wanted | set(conds(told[args[0]]))
            for name_of_call, output in zip(names, called[2]):
                number = [output in function for function in parting].index(True)
                graph[name_of_call] = {(names, number)} | set(conds(told[name_of_call]))
            continue
        wanted = {"op": right[-1], "table": right[-1], "when": right[1:3], "const": (), "held": ()}.get(right[0])
        if right[0] == "choose":
            wanted = (right[1], *right[2])
        graph[names[0]] = set(wanted) | set(conds(told[names[0]]))
    return {point: wanted & set(graph) for point, wanted in graph.items()}


def has_ring(graph):
    """Whether a graph has a ring: whether not all points can be taken, each behind those that it asks for."""
    left = dict(graph)
    while True:
        free = [point for point, wanted in left.items() if not wanted & set(left)]
        if not free:
            return bool(left)
        for point in free:
            del left[point]


def is_right_order(graph, points):
    """Whether a tuple is an order of a graph."""
    if not isinstance(points, tuple) or len(points) != len(graph) or set(points) != set(graph):
        return False
    return all(graph[point] <= set(points[:place]) for place, point in enumerate(points))


def is_right_ring(graph, points):
    """Whether a tuple is a ring of a graph."""
    if not isinstance(points, tuple) or not points or len(set(points)) != len(points):
        return False
    return all(other in graph[point] for point, other in zip(points, points[1:] + points[:1]))


def is_small(made, name):
    """Whether a node stays within the limits of [7.1]."""
    node = made.node_at(name)
    streams = made.streams_at(name)
    if len(node[1]) > 3 or len(node[2]) > 3 or len(stream_asks(made, name)) > 8:
        return False
    for clock in output_clocks(made, name).values():
        if len(clock) > 1:
            return False
        if clock and clock[0][0] not in [word for word, _ in node[1]] + list(node[2]):
            return False
        if clock and len(dict(streams)[clock[0][0]][1]) > 3:
            return False
    return len(made.nodes()) < 4


def small_nodes(seed, count, odd=False):
    """The list of so many pairs of a swift program and the name of its main node, within the limits of [7.1]."""
    found = []
    for made in swift_programs(seed, 6 * count, odd):
        nodes = made.nodes()[:3]
        made = Program(nodes)
        if is_small(made, nodes[-1][0]) and len(found) < count:
            found.append((made, nodes[-1][0]))
    return found


def drawn_users(made, name, seed, count):
    """The list of up to so many swift users of a node, drawn."""
    chance = random.Random(seed)
    node = made.node_at(name)
    kinds = dict(made.streams_at(name))
    ahead = [(node, clocks(made, name), {output: kinds[output] for output in node[2]})]
    found = []
    for _ in range(12 * count):
        draw = Draw(chance, "user", ahead, False)
        draw.inputs, draw.kinds, draw.clocks = [], {}, {}
        for word, kind in node[1]:
            draw.inputs.append((draw.named(kind, ()), kind))
        main = draw.node(6)
        if main is None or not any(right[0] == "call" for _, right in main[3]):
            continue
        try:
            user = Program([*made.nodes(), main])
        except TickError:
            continue
        if is_swift(user) and len(found) < count:
            found.append(user)
    return found
