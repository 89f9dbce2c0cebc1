"""What the judge of rows knows of a swift program.

Streams are told by their numbers in the written-out order, and sets of streams by masks: the
bit k of a mask is for the stream k.
"""

from tickworks.clocks import written_clocks
from tickworks.conditions import are_met, do_clash, from_pairs
from tickworks.shapes import operands, telling


def mask_of(numbers):
    """The mask of these streams, each of which is told once."""
    return sum([1 << number for number in numbers])


class View:
    """What conditions tell of the streams of a program."""

    def __init__(self, ground, conditions):
        numbers = range(len(ground.streams))
        clocks = ground.clock_conditions
        self.sure_mask = mask_of([
            number for number in numbers
            if clocks[number] is not None and are_met(clocks[number], conditions)
        ])
        self.clashing_mask = mask_of([
            number for number in numbers
            if clocks[number] is None or do_clash(clocks[number], conditions)
        ])
        self.brings = [
            (1 << one, 1 << other) for number in numbers for one, other in ground.links(number, conditions)
        ]

    def closed(self, mask):
        """The streams with which a cell has facts, where it has facts with these."""
        ahead = None
        while mask != ahead:
            ahead = mask
            for one, other in self.brings:
                if mask & one:
                    mask = mask | other
        return mask


class Ground:
    """The streams of a swift program, their roots and their clocks."""

    def __init__(self, program):
        rows = program.written_rows()
        self.program = program
        self.streams = [stream for stream, _, _ in rows]
        self.rights = [right for _, right, _ in rows]
        self.kinds = [kind for _, _, kind in rows]
        self.numbers = {stream: number for number, stream in enumerate(self.streams)}
        self.operands = [[self.numbers[stream] for stream in operands(right)] for right in self.rights]
        self.roots = [self.root_from(number) for number in range(len(rows))]
        told = written_clocks(program)
        self.clocks = [self.pairs(told[stream]) for stream in self.streams]
        self.clock_conditions = [from_pairs(clock) for clock in self.clocks]
        self._views = {}

    def root_from(self, number):
        """The root of a stream."""
        while self.rights[number][0] in ("as", "arg", "when"):
            number = self.numbers[telling(self.rights[number])]
        return number

    def root(self, stream):
        """The root of a stream that is told by its name."""
        return self.roots[self.numbers[stream]]

    def pairs(self, clock):
        """The tuple of the pairs (root, word) of a clock of streams told by their names."""
        return tuple([(self.root(cond), word) for cond, word in clock])

    def links(self, number, conditions):
        """The list of the pairs (one, other) of which a fact with one brings one with the other, by a right side."""
        right = self.rights[number]
        if right[0] == "choose":
            word = conditions.get(self.root(right[1]))
            if word is None:
                return []
            cond, *branches = self.operands[number]
            branch = branches[self.kinds[cond][1].index(word)]
            return [(branch, number), (number, branch)]
        if right[0] not in ("as", "arg", "when"):
            return []
        source = self.numbers[telling(right)]
        if right[0] == "when" and conditions.get(self.root(right[2])) != right[3]:
            return [(source, number)]
        return [(source, number), (number, source)]

    def view_of(self, conditions):
        """What these conditions tell, worked out once."""
        key = tuple(sorted(conditions.items()))
        if key not in self._views:
            self._views[key] = View(self, conditions)
        return self._views[key]

    def listed(self, mask):
        """The list of the streams of a mask, ascending."""
        return [number for number in range(len(self.streams)) if mask >> number & 1]
