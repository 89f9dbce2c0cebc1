"""Clocks: when streams are there, told from equations or judged."""

from tickworks.dues import due_names, due_operands
from tickworks.errors import Ring, Unclocked
from tickworks.names import names_told
from tickworks.shapes import telling
from tickworks.types import is_tuple


def seen_outside(node):
    """The list of a node's inputs and outputs: what its callers can name."""
    return [word for word, _ in node[1]] + list(node[2])


def went_on(node, told, called):
    """Whether one pass over a node's equations finds a clock; it puts it into told."""
    found = False
    for names, right in node[3]:
        stream = telling(right)
        if stream in told and names[0] not in told:
            due = due_names(names, right, told[stream], called)
            for name, clock in due:
                told[name] = clock
            found = True
    return found


def check_operands(node, kinds, told):
    """Unclocked for the first operand that is not on the clock that is due."""
    for _, right in node[3]:
        for stream, due in due_operands(right, told[telling(right)], kinds):
            if told[stream] != due:
                raise Unclocked(node[0], stream, due, told[stream])


def told_outside(node, clock):
    """The longest beginning of a clock that names inputs and outputs of the node alone."""
    known = seen_outside(node)
    for place, (cond, _) in enumerate(clock):
        if cond not in known:
            return clock[:place]
    return clock


def check_outputs(node, told):
    """Unclocked for the first output whose clock no caller could tell."""
    for output in node[2]:
        front = told_outside(node, told[output])
        if front != told[output]:
            raise Unclocked(node[0], output, told[output], front)


def clocking_of(node, kinds, called):
    """The told clocking of a node, a dict in the order of its streams; Ring or Unclocked if none is told."""
    told = {word: () for word, _ in node[1]}
    while went_on(node, told, called):
        pass
    ring = [name for name in names_told(node) if name not in told]
    if len(ring) > 0:
        raise Ring(tuple(ring))
    check_operands(node, kinds, told)
    check_outputs(node, told)
    return {stream: told[stream] for stream in kinds}


def clocked_to(program, name):
    """The dict from the names of the nodes up to this one to the pairs (node, its told clocking)."""
    nodes = program.nodes()
    last = nodes.index(program.node_at(name))
    found = {}
    for node in nodes[:last + 1]:
        kinds = dict(program.streams_at(node[0]))
        found[node[0]] = (node, clocking_of(node, kinds, found))
    return found


def clocks(program, node):
    """The clocking of the node of a name, any value: a dict from its streams to clocks."""
    return clocked_to(program, node)[node][1]


def output_clocks(program, node):
    """The dict from the outputs of the node of a name, any value, to their clocks."""
    told = clocks(program, node)
    return {output: told[output] for output in program.node_at(node)[2]}


def has_keys(value, names):
    """Whether any value is a dict whose keys are just these names, which are different."""
    if not isinstance(value, dict) or len(value) != len(names):
        return False
    return all([name in value for name in names])


def is_clock(value, kinds):
    """Whether any value is a clock of a node whose streams have these types."""
    return isinstance(value, tuple) and all([is_clock_pair(pair, kinds) for pair in value])


def is_clock_pair(value, kinds):
    """Whether any value is a pair of a lot's stream and one of the lot's words."""
    if not is_tuple(value, 2, 2) or not isinstance(value[0], str) or value[0] not in kinds:
        return False
    kind = kinds[value[0]]
    return kind[0] == "lot" and value[1] in kind[1]


def equation_holds(names, right, kinds, given, called):
    """Whether an equation's streams are on clocks that go together, by given."""
    clock = given[telling(right)]
    due = due_operands(right, clock, kinds) + due_names(names, right, clock, called)
    return all([given[stream] == wanted for stream, wanted in due])


def row_fault(node, kinds, given, called):
    """The first input that is not on the base clock, else the first name of the first wrong equation, or None."""
    for word, _ in node[1]:
        if given[word] != ():
            return word
    for names, right in node[3]:
        if not equation_holds(names, right, kinds, given, called):
            return names[0]
    return None


def clocking_fault(node, kinds, given, called):
    """What is wrong with any value as a clocking of a node, or None; called as due_names takes it."""
    if not has_keys(given, list(kinds)):
        return ("streams", node[0])
    for stream in kinds:
        if not is_clock(given[stream], kinds):
            return ("clock", node[0], stream)
    stream = row_fault(node, kinds, given, called)
    if stream is not None:
        return ("row", node[0], stream)
    for output in node[2]:
        if told_outside(node, given[output]) != given[output]:
            return ("output", node[0], output)
    return None


def judge_clocks(program, value):
    """None if any value gives each node of the program a clocking of it, else the first fault."""
    nodes = program.nodes()
    if not has_keys(value, [node[0] for node in nodes]):
        return ("form",)
    called = {}
    for node in nodes:
        given = value[node[0]]
        fault = clocking_fault(node, dict(program.streams_at(node[0])), given, called)
        if fault is not None:
            return fault
        called[node[0]] = (node, given)
    return None


def placed(clock, path):
    """A clock of a node's streams with the path ahead of its conds."""
    return tuple([(path + cond, word) for cond, word in clock])


def placed_clocks(node, found, path, base):
    """The list of the pairs (stream, clock) of a node that stands in this path, called on this clock."""
    own = found[node[0]][1]
    pairs = [(path + stream, base + placed(clock, path)) for stream, clock in own.items()]
    for names, right in node[3]:
        if right[0] == "call":
            called = found[right[1]][0]
            inner = base + placed(own[telling(right)], path)
            pairs.extend(placed_clocks(called, found, path + names[0] + ".", inner))
    return pairs


def led_back(clock, rights):
    """A clock whose conds are led back to what they copy."""
    pairs = []
    for cond, word in clock:
        while rights[cond][0] in ("as", "arg"):
            cond = telling(rights[cond])
        pairs.append((cond, word))
    return tuple(pairs)


def written_clocks(program):
    """The dict from the streams of the program written out to clocks of streams of it."""
    main = program.main()
    told = dict(placed_clocks(main, clocked_to(program, main[0]), "", ()))
    rights = {stream: right for stream, right, _ in program.written_rows()}
    return {stream: led_back(told[stream], rights) for stream in rights}


def is_open(clock, standings):
    """Whether each cond of a clock has its word in standings."""
    return all([standings[cond] == ("value", word) for cond, word in clock])
