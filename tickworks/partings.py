"""Partings: the streams of a node that is compiled alone, cut into functions."""

from tickworks.errors import BadNumber, BadParting, NotYet
from tickworks.needs import alone, asks_in
from tickworks.runs import tick
from tickworks.sequences import order_or_ring, reached
from tickworks.types import is_number, values_of


def are_functions(value):
    """Whether any value is a tuple of tuples of one or more strings."""
    if not isinstance(value, tuple):
        return False
    for function in value:
        if not isinstance(function, tuple) or len(function) == 0:
            return False
        if not all([isinstance(stream, str) for stream in function]):
            return False
    return True


def parting_fault(streams, value):
    """What is wrong with any value as a parting of these streams, or None."""
    if not are_functions(value):
        return ("form",)
    met = {}
    for function in value:
        for stream in function:
            if stream not in streams or stream in met:
                return ("stream", stream)
            met[stream] = True
    for stream in streams:
        if stream not in met:
            return ("missing", stream)
    return None


def judge_parting(program, name, value):
    """None if any value is a parting of the node of a name, else the first fault."""
    return parting_fault(list(asks_in(alone(program, name))), value)


def parted(program, name, parting):
    """The node of a name alone, if any value is a parting of it, else BadParting."""
    node = alone(program, name)
    if parting_fault(list(asks_in(node)), parting) is not None:
        raise BadParting()
    return node


def single_parting(program, name):
    """The parting that gives each stream a function of its own."""
    return tuple([(stream,) for stream in asks_in(alone(program, name))])


def whole_parting(program, name):
    """The parting with one function."""
    return (tuple(asks_in(alone(program, name))),)


def functions_asked(asked, parting):
    """The list of the ascending lists of the functions that functions ask for; asked is what streams ask for."""
    places = {stream: number for number, function in enumerate(parting) for stream in function}
    found = []
    for number, function in enumerate(parting):
        others = {
            places[other]: True for stream in function for other in asked[stream]
            if other in places and places[other] != number
        }
        found.append(sorted(others))
    return found


def inputs_asked(asked, parting, sources):
    """The list of the lists of those of the inputs that functions ask for, straight or through others."""
    graph = dict(enumerate(functions_asked(asked, parting)))
    found = []
    for number in range(len(parting)):
        functions = [number, *reached(graph, [number])]
        others = [other for one in functions for stream in parting[one] for other in asked[stream]]
        found.append([word for word in sources if word in others])
    return found


def sources_of(node):
    """The list of the inputs of a node that stands alone."""
    return [word for word, _ in node.main()[1]]


def asked_functions(program, name, parting):
    """The list, function by function, of the ascending lists of the functions that it asks for."""
    return functions_asked(asks_in(parted(program, name, parting)), parting)


def asked_inputs(program, name, parting):
    """The list, function by function, of the lists of the inputs that it asks for."""
    node = parted(program, name, parting)
    return inputs_asked(asks_in(node), parting, sources_of(node))


def order_in(asked, parting):
    """("order", numbers) or ("ring", numbers) of a parting's functions."""
    graph = dict(enumerate(functions_asked(asked, parting)))
    return order_or_ring(list(graph), graph)


def calling_order(program, name, parting):
    """("order", numbers) in which the functions can be called, or ("ring", numbers) if they cannot."""
    return order_in(asks_in(parted(program, name, parting)), parting)


class Play:
    """A tick of a node alone, done by the functions of a parting."""

    def __init__(self, node, parting, state):
        asked = asks_in(node)
        self.node = node
        self.parting = parting
        self.state = state
        self.functions = functions_asked(asked, parting)
        self.sources = inputs_asked(asked, parting, sources_of(node))
        self.given = {}
        self.called = {}
        self.is_closed = False

    def can_do(self, step):
        """Whether a step can be done now."""
        if self.is_closed:
            return False
        if step[0] == "give":
            return step[1] not in self.given
        if step[0] == "close":
            return len(self.given) == len(self.node.main()[1]) and len(self.called) == len(self.parting)
        number = step[1]
        asked_for = [other in self.called for other in self.functions[number]]
        asked_for.extend([word in self.given for word in self.sources[number]])
        return number not in self.called and all(asked_for)

    def told_now(self):
        """What the tick tells."""
        # What was not given yet is asked for by nothing that is told now.
        inputs = [self.given.get(word, values_of(kind)[0]) for word, kind in self.node.main()[1]]
        return tick(self.node, self.state, tuple(inputs))

    def do(self, step):
        """What a step that can be done tells."""
        if step[0] == "give":
            self.given[step[1]] = step[2]
            return None
        _, told, state = self.told_now()
        if step[0] == "close":
            self.is_closed = True
            return state
        self.called[step[1]] = True
        function = self.parting[step[1]]
        return [(output, value) for output, value in zip(self.node.main()[2], told) if output in function]


def played(program, name, parting, state, steps):
    """The list of what the steps of one tick tell; NotYet for the first one that cannot be done."""
    play = Play(parted(program, name, parting), parting, state)
    told = []
    for number, step in enumerate(steps):
        if not play.can_do(step):
            raise NotYet(number)
        told.append(play.do(step))
    return told


def finer(one, other):
    """Whether each function of one parting lies in a function of the other."""
    places = {stream: number for number, function in enumerate(other) for stream in function}
    return all([len({places[stream]: True for stream in function}) == 1 for function in one])


def joined(parting, first, second):
    """The parting in which the second function's streams stand behind those of the first one."""
    for number in (first, second):
        if not is_number(number) or not 0 <= number < len(parting):
            raise BadNumber(number)
    if second == first:
        raise BadNumber(second)
    both = parting[first] + parting[second]
    functions = [both if number == first else function for number, function in enumerate(parting)]
    return tuple(functions[:second] + functions[second + 1:])


def by_asking(node):
    """The parting of a node alone by the outputs that ask for streams."""
    asked = asks_in(node)
    met = {output: reached(asked, [output]) for output in node.main()[2]}
    functions = {}
    for stream in asked:
        outputs = tuple([output for output in met if stream == output or stream in met[output]])
        functions[outputs] = functions.get(outputs, ()) + (stream,)
    return tuple(functions.values())


def by_outputs(program, name):
    """The parting whose functions are the streams that are asked for by the same outputs."""
    return by_asking(alone(program, name))


def unneeded(node, asked, parting):
    """The first pair of an output and an input that its function asks for, but it does not need, or None."""
    inputs = inputs_asked(asked, parting, sources_of(node))
    for output in node.main()[2]:
        needed = reached(asked, [output])
        for function, words in zip(parting, inputs):
            too_much = [word for word in words if word not in needed]
            if output in function and len(too_much) > 0:
                return (output, too_much[0])
    return None


def do_serve(node, asked, parting):
    """Whether a parting of a node alone, or of some of its streams, does not keep it from serving."""
    return order_in(asked, parting)[0] == "order" and unneeded(node, asked, parting) is None


def serving_cuts(node, asked, streams, many):
    """The list of the partings of a list of streams into so many functions that can be part of one that serves."""
    if len(streams) == 0 or many == 0:
        return [()] if len(streams) == many else []
    last = streams[-1]
    found = [cut + ((last,),) for cut in serving_cuts(node, asked, streams[:-1], many - 1)]
    for cut in serving_cuts(node, asked, streams[:-1], many):
        for number in range(many):
            found.append(cut[:number] + (cut[number] + (last,),) + cut[number + 1:])
    # Streams that are added make functions ask for more, so what does not serve now never will.
    return [cut for cut in found if do_serve(node, asked, cut)]


def fewest(program, name):
    """A serving parting with as few functions as possible."""
    node = alone(program, name)
    asked = asks_in(node)
    serving = by_asking(node)
    for many in range(1, len(serving)):
        found = serving_cuts(node, asked, list(asked), many)
        if len(found) > 0:
            return found[0]
    return serving
