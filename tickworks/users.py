"""Users of a node that is compiled alone, and whether they can be ordered with its functions alone."""

from tickworks.clocks import clocks
from tickworks.leading import leading_user, plain_user
from tickworks.needs import asks_in
from tickworks.nodes import Program
from tickworks.orders import judge_order, order_of, why_not
from tickworks.partings import functions_asked, order_in, parted, unneeded
from tickworks.sequences import order_or_ring
from tickworks.shapes import telling, worked_from
from tickworks.types import is_number, is_tuple


def conds_of(clock):
    """The list of the conds of a clock."""
    return [cond for cond, _ in clock]


def call_points(node, parting, names, right, told):
    """The dict from the points of a call to what they ask for, inputs of the user among it.

    node is the called one alone, and told has the clocks of the user's streams.
    """
    asked = asks_in(node)
    functions = functions_asked(asked, parting)
    called = node.main()
    args = {word: arg for (word, _), arg in zip(called[1], right[2])}
    conds = conds_of(told[telling(right)])
    points = {}
    for number, function in enumerate(parting):
        wanted = [(names, other) for other in functions[number]]
        wanted.extend([args[word] for stream in function for word in asked[stream] if word in args])
        points[(names, number)] = wanted + conds
    for name, output in zip(names, called[2]):
        numbers = [number for number, function in enumerate(parting) if output in function]
        points[name] = [(names, numbers[0])] + conds_of(told[name])
    return points


def graph_of(node, parting, user):
    """The dict from the points of a user's graph to the lists of the points that they ask for."""
    main = user.main()
    told = clocks(user, main[0])
    points = {}
    for names, right in main[3]:
        if right[0] == "call":
            for point, wanted in call_points(node, parting, names, right, told).items():
                points[point] = wanted
        else:
            points[names[0]] = worked_from(right) + conds_of(told[names[0]])
    return {one: [other for other in asked if other in points] for one, asked in points.items()}


def ordered(node, parting, user):
    """("order", points) or ("ring", points) of a user of a node alone."""
    graph = graph_of(node, parting, user)
    return order_or_ring(list(graph), graph)


def user_order(program, name, parting, user):
    """("order", points) or ("ring", points) of a swift user of a node."""
    return ordered(parted(program, name, parting), parting, user)


def serves(program, name, parting):
    """("serves", numbers) with a calling order, or a user that cannot be ordered, with what shows it."""
    node = parted(program, name, parting)
    asked = asks_in(node)
    word, numbers = order_in(asked, parting)
    lead = unneeded(node, asked, parting)
    if word == "order" and lead is None:
        return ("serves", numbers)
    user = plain_user(node) if word == "ring" else leading_user(node, lead[0], lead[1])
    return ("user", user, order_of(user)[1], ordered(node, parting, user)[1])


def is_user(node, value):
    """Whether any value is a user of a node alone, and is clocked."""
    if not isinstance(value, Program) or value.nodes()[:-1] != node.nodes():
        return False
    called = [right[1] for _, right in value.main()[3] if right[0] == "call"]
    if len(called) == 0 or not all([name == node.main()[0] for name in called]):
        return False
    fault = why_not(value)
    return fault is None or fault[0] == "order"


def is_point(graph, value):
    """Whether any value is a point of a graph."""
    if isinstance(value, str):
        return value in graph
    return is_tuple(value, 2, 2) and is_number(value[1]) and value in list(graph)


def ring_fault(graph, value):
    """What is wrong with any value as a ring of a graph, or None."""
    if not isinstance(value, tuple) or len(value) == 0:
        return ("ring", 0)
    for place, point in enumerate(value):
        if not is_point(graph, point) or point in value[:place]:
            return ("ring", 0)
    for place, point in enumerate(value):
        if value[(place + 1) % len(value)] not in graph[point]:
            return ("ring", place)
    return None


def judge_user(program, name, parting, value):
    """None if any value is a swift user that cannot be ordered, with what shows it, else the first fault."""
    node = parted(program, name, parting)
    if not is_tuple(value, 4, 4) or value[0] != "user":
        return ("form",)
    user = value[1]
    if not is_user(node, user):
        return ("user",)
    fault = judge_order(user, value[2])
    if fault is not None:
        return ("order", fault)
    return ring_fault(graph_of(node, parting, user), value[3])
