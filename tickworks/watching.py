"""What would come of other programs at a plant's moments."""

from tickworks.branches import line_to, tried
from tickworks.faces import check_face, check_swift, swift_program
from tickworks.pairs import Ticks, walked_pairs
from tickworks.rounds import helds
from tickworks.runs import run

MOST_PAIRS = 400


def led_state(program, state, other):
    """The state of the other program to which a state of a program is led."""
    memories = {(stream, kind): memory for (stream, _, kind), memory in zip(helds(program), state)}
    return tuple([memories.get((stream, kind), right[2]) for stream, right, kind in helds(other)])


def goes_alike(program, state, other, more, *, pairs=400):
    """("alike", pairs) of two swift programs from two states on, or ("parts", inputs), both with lists."""
    check_face(program, other)
    found, end = walked_pairs(Ticks(program), Ticks(other), (state, more), pairs)
    return ("alike" if end is None else "parts", list(found))


def replayed(plant, number, program):
    """The list of outputs of the ticks of a moment's way, gone again with a program from its first state."""
    deeds = line_to(plant, number)
    check_swift(program)
    check_face(plant.now()[0], program)
    inputs = [deed[1] for deed in deeds if deed[0] == "tick"]
    return [told[1] for told in run(program, inputs)]


def would_part(plant, deeds):
    """What goes_alike tells of the present moment and of the one behind deeds, which are not done here."""
    program, state, _ = plant.now()
    twin = plant.twin()
    tried(twin, deeds)
    other, more, _ = twin.now()
    return goes_alike(program, state, other, more)


class Comparison:
    """A program, compared with others at their states; what was worked out once is kept."""

    def __init__(self, program):
        self.ticks = Ticks(program)
        self.others = []
        self._answers = {}

    def number_of(self, program):
        """The number of another program."""
        for number, ticks in enumerate(self.others):
            if ticks.program == program:
                return number
        self.others.append(Ticks(program))
        return len(self.others) - 1

    def is_right(self, program, state):
        """Whether the program, its state led from this one, goes alike with another program from there."""
        number = self.number_of(program)
        pair = (state, led_state(program, state, self.ticks.program))
        if (number, pair) not in self._answers:
            found, end = walked_pairs(self.others[number], self.ticks, pair, MOST_PAIRS)
            # Where two programs go alike, they do so from all pairs that are met.
            met = found if end is None else [pair]
            for one in met:
                self._answers[(number, one)] = end is None
        return self._answers[(number, pair)]


def right_from(plant, nodes):
    """The ascending list of the moments from which a program of nodes, any value, goes alike with their own."""
    program = swift_program(nodes)
    check_face(plant.now()[0], program)
    comparison = Comparison(program)
    told = [plant.moment(number)[:2] for number in range(len(plant))]
    return [number for number, (own, state) in enumerate(told) if comparison.is_right(own, state)]
