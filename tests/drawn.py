"""Drawn programs: swift ones for the most part, with each kind of right side.

They are drawn from numbers of a random.Random that begins at a told seed, so they stay the same.
"""

import random

from samples import THREE, TWO, YES_NO
from tickworks.errors import TickError
from tickworks.nodes import Program
from tickworks.orders import is_swift
from tickworks.types import many, values_of
from tickworks.written import helds_of, written_types

MODES = ("lot", ("off", "low", "top"))
KINDS = [YES_NO, YES_NO, MODES, TWO, THREE]
NAMES = "abcdefghijklmnopqrstuvw"


class Draw:
    """A node that is drawn equation by equation; each stream's type and clock are kept."""

    def __init__(self, chance, name, ahead, odd):
        self.chance = chance
        self.odd = odd
        self.name = name
        self.ahead = ahead
        self.inputs = []
        self.equations = []
        self.kinds = {}
        self.clocks = {}
        self.free = list(NAMES)
        rows = 1
        for _ in range(chance.randint(1, 3)):
            kind = YES_NO if odd else chance.choice(KINDS)
            if rows * many(kind) <= 12:
                rows *= many(kind)
                self.inputs.append((self.named(kind, ()), kind))
        if not self.inputs:
            self.inputs.append((self.named(YES_NO, ()), YES_NO))

    def named(self, kind, clock):
        """A new name with this type and clock."""
        name = self.free.pop(0)
        self.kinds[name], self.clocks[name] = kind, clock
        return name

    def put(self, kind, clock, right):
        """Puts an equation with one name."""
        name = self.named(kind, clock)
        self.equations.append(((name,), right))
        return name

    def with_clock(self, clock, kind=None):
        """The streams on this clock, perhaps of one type alone."""
        return [
            name for name in self.kinds
            if self.clocks[name] == clock and kind in (None, self.kinds[name])
        ]

    def any_stream(self):
        """Some stream, the later ones more often."""
        names = list(self.kinds)
        deep = [name for name in names if self.clocks[name]]
        if deep and self.chance.random() < 0.4:
            return self.chance.choice(deep)
        return names[max(self.chance.randrange(len(names)), self.chance.randrange(len(names)))]

    def value(self, kind):
        """Some value of a type."""
        return self.chance.choice(values_of(kind))

    def const(self):
        """A const; few values, so that some are equal."""
        like = self.any_stream()
        kind = self.chance.choice([YES_NO, YES_NO, MODES, TWO])
        self.put(kind, self.clocks[like], ("const", kind, self.value(kind), like))

    def op(self):
        """An op."""
        one = self.any_stream()
        clock, kind = self.clocks[one], self.kinds[one]
        other = self.chance.choice(self.with_clock(clock, kind))
        words = ["same", "less"]
        if kind == YES_NO:
            words += ["and", "or", "not", "not"]
        if kind[0] == "count":
            words += ["plus", "plus"]
        word = self.chance.choice(words)
        args = (one,) if word == "not" else (one, other)
        self.put(kind if word == "plus" else YES_NO, clock, ("op", word, args))

    def pair(self):
        """A pair, and one of its parts."""
        one = self.any_stream()
        other = self.chance.choice(self.with_clock(self.clocks[one]))
        kind = ("pair", self.kinds[one], self.kinds[other])
        if many(self.kinds[one]) * many(self.kinds[other]) <= 9 and "pair" not in (kind[1][0], kind[2][0]):
            both = self.put(kind, self.clocks[one], ("op", "pair", (one, other)))
            word = self.chance.choice(["first", "second"])
            self.put(kind[1 if word == "first" else 2], self.clocks[one], ("op", word, (both,)))

    def table(self):
        """A table over one or two streams."""
        args = [self.any_stream()]
        if self.chance.random() < 0.5:
            args.append(self.chance.choice(self.with_clock(self.clocks[args[0]])))
        rows = 1
        for arg in args:
            rows *= many(self.kinds[arg])
        if rows <= 12:
            kind = self.chance.choice(KINDS)
            results = tuple(self.value(kind) for _ in range(rows))
            self.put(kind, self.clocks[args[0]], ("table", kind, results, tuple(args)))

    def held(self):
        """A held of a stream that there is, or of one that comes behind it."""
        like = self.any_stream()
        clock = self.clocks[like]
        stream = self.chance.choice(self.with_clock(clock))
        kind = self.kinds[stream]
        if kind[0] == "pair":
            return
        if self.odd or self.chance.random() < 0.5:
            self.put(kind, clock, ("held", kind, self.value(kind), stream, like))
            return
        later = self.free[1]
        self.put(kind, clock, ("held", kind, self.value(kind), later, like))
        held = list(self.kinds)[-1]
        word = "plus" if kind[0] == "count" else "table"
        if word == "plus":
            self.put(kind, clock, ("op", "plus", (held, stream)))
        else:
            rows = many(kind) * many(kind)
            results = tuple(self.value(kind) for _ in range(rows))
            self.put(kind, clock, ("table", kind, results, (held, stream)))

    def when(self):
        """A when."""
        stream = self.any_stream()
        conds = [name for name in self.with_clock(self.clocks[stream]) if self.kinds[name][0] == "lot"]
        if conds:
            cond = self.chance.choice(conds)
            word = self.chance.choice(self.kinds[cond][1])
            self.put(self.kinds[stream], self.clocks[stream] + ((cond, word),), ("when", stream, cond, word))

    def choose(self):
        """A choose; its branches are those that there are, or whens made for it."""
        conds = [name for name in self.kinds if self.kinds[name][0] == "lot"]
        if not conds:
            return
        cond = self.chance.choice(conds)
        clock = self.clocks[cond]
        kind = self.kinds[self.chance.choice(self.with_clock(clock))]
        branches = []
        for word in self.kinds[cond][1]:
            inner = clock + ((cond, word),)
            found = self.with_clock(inner, kind)
            if not found:
                source = self.chance.choice(self.with_clock(clock, kind))
                found = [self.put(kind, inner, ("when", source, cond, word))]
            branches.append(self.chance.choice(found))
        self.put(kind, clock, ("choose", cond, tuple(branches)))

    def call(self):
        """A call of a node ahead."""
        if not self.ahead:
            return
        node, clocks, kinds = self.chance.choice(self.ahead)
        clock = self.clocks[self.any_stream()]
        args = []
        for _, kind in node[1]:
            found = self.with_clock(clock, kind)
            if not found:
                return
            args.append(self.chance.choice(found))
        again = None
        conds = [name for name in self.with_clock(clock) if self.kinds[name][0] == "lot"]
        if conds and self.chance.random() < 0.5:
            cond = self.chance.choice(conds)
            again = (cond, self.chance.choice(self.kinds[cond][1]))
        renamed = {word: arg for (word, _), arg in zip(node[1], args)}
        names = []
        for output in node[2]:
            renamed[output] = self.free[0]
            names.append(self.named(kinds[output], None))
        for name, output in zip(names, node[2]):
            self.clocks[name] = clock + tuple((renamed[cond], word) for cond, word in clocks[output])
        self.equations.append((tuple(names), ("call", node[0], tuple(args), again)))

    def outputs(self):
        """Some outputs whose clocks callers can tell."""
        names = [name for names, _ in self.equations for name in names]
        self.chance.shuffle(names)
        known = [word for word, _ in self.inputs]
        chosen = []
        for _ in range(2):
            for name in names:
                fits = all(cond in known + chosen + [name] for cond, _ in self.clocks[name])
                if name not in chosen and fits and len(chosen) < 4 and self.chance.random() < 0.6:
                    chosen.append(name)
        chosen = [name for name in chosen if all(cond in known + chosen for cond, _ in self.clocks[name])]
        return tuple(chosen[:4])

    def node(self, most):
        """The node, with about so many equations, or None if it has no outputs."""
        makers = [self.const, self.op, self.op, self.pair, self.table, self.held, self.when, self.when, self.when,
                  self.choose, self.choose, self.call, self.call]
        if self.odd:
            makers = [self.when] * 5 + [self.choose] * 5 + [self.op, self.const, self.held, self.call]
        wanted = self.chance.randint(3, most)
        for _ in range(8 if self.ahead else 0):
            if not any(right[0] == "call" for _, right in self.equations):
                self.call()
        for _ in range(40):
            if len(self.equations) < wanted:
                self.chance.choice(makers)()
        outputs = self.outputs()
        if not outputs or not 1 <= len(self.equations) <= 8:
            return None
        return (self.name, tuple(self.inputs), outputs, tuple(self.equations))


def drawn_program(chance, odd=False):
    """A drawn program and the dict from its nodes' names to the clocks that were kept, or None if it is none.

    In an odd one streams are parted and joined again and again, so that many of them are never there.
    """
    nodes, ahead = [], []
    count = chance.randint(1, 3)
    for place, name in enumerate(["low", "mid", "main"][:count]):
        draw = Draw(chance, name, ahead, odd)
        node = draw.node(8 if place == count - 1 else 4)
        if node is None:
            return None
        nodes.append(node)
        ahead.append((node, draw.clocks, draw.kinds))
    try:
        return Program(nodes), {node[0]: clocks for node, clocks, _ in ahead}
    except TickError:
        return None


def drawn_programs(seed, count, odd=False):
    """The list of so many pairs (swift program, its clocks)."""
    chance = random.Random(seed)
    found = []
    while len(found) < count:
        made = drawn_program(chance, odd)
        if made is not None and is_swift(made[0]):
            found.append(made)
    return found


def swift_programs(seed, count, odd=False):
    """The list of so many swift programs."""
    return [made for made, _ in drawn_programs(seed, count, odd)]


def drawn_ticks(made, chance, count):
    """The list of so many pairs of a state and inputs of a program."""
    types = written_types(made)
    found = []
    for _ in range(count):
        state = tuple(chance.choice(values_of(types[held])) for held in helds_of(made))
        inputs = tuple(chance.choice(values_of(kind)) for _, kind in made.main()[1])
        found.append((state, inputs))
    return found
