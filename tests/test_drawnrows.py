"""Rows of drawn programs, as they are compiled and with parts changed: [6.3] to [6.5]."""

import random

from cases import Case
from changes import Change
from drawn import drawn_ticks, swift_programs
from tickworks.compiler import bared, compiled, merged, shared
from tickworks.errors import TickError
from tickworks.facts import facts_behind, judge_rows
from tickworks.machine import run_rows
from tickworks.nodes import Program
from tickworks.nodetexts import read_program
from tickworks.orders import is_swift
from tickworks.rows import form_fault
from tickworks.runs import tick
from tickworks.written import written_out
from samples import ALL, CROSSED, KEEPS, KEYWORDS, NESTED, OPS, RARELY, SOMETIMES, HALVES, SUM, TWICE
from words import Words

# What z is where c is yes is c, and k, too; so no tick comes where z is no and f is yes, and there v has no fact.
DEAD = """node head
in c lot(no,yes)
in e lot(no,yes)
out z f g
i = op not e
y = when c c yes
x = when e c no
z = choose c x y
f = when c z no
j = when i c no
k = choose c j y
g = when k z no
"""
DEAD_MAIN = """node main
in c lot(no,yes)
in e lot(no,yes)
out z w
z f g = call head c e
h = when g f yes
p = when h h no
q = when h h yes
v = choose h p q
m = op not v
n = when f f no
w = choose f n m
"""
DEAD_HELD = DEAD_MAIN.replace("m = op not v\n", "m = held lot(no,yes) yes v v\n")


def depth(rows):
    """How many ifs stand within one another."""
    return max([1 + max([0] + [depth(inner) for _, inner in row[2]]) for row in rows if row[0] == "if"], default=0)


class TestCompiled(Case):
    """compiled"""

    def compiles(self, made, chance, count=6):
        """Checks that compiled rows are let by, and tell what ticks tell."""
        rows = compiled(made)
        self.exact(form_fault(made, rows), None)
        self.exact(judge_rows(made, rows), None)
        self.exact(Words(made).fault(rows), None)
        self.assertLessEqual(depth(rows), 50)
        for state, inputs in drawn_ticks(made, chance, count):
            self.exact(run_rows(made, rows, state, inputs), tick(made, state, inputs))

    def test_samples(self):
        chance = random.Random(60)
        for nodes in [ALL, CROSSED, KEEPS, KEYWORDS, NESTED, [OPS], RARELY, [SOMETIMES], [HALVES], [SUM], [SUM, TWICE]]:
            self.compiles(Program(nodes), chance, 60)

    def test_drawn_programs(self):
        chance = random.Random(61)
        for made in swift_programs(61, 250) + swift_programs(62, 350, True):
            self.compiles(made, chance)

    def test_places_where_no_tick_comes(self):
        chance = random.Random(63)
        for text in [DEAD + DEAD_MAIN, DEAD + DEAD_HELD]:
            for old, new in [
                ("out z w", "out z w"), ("out z w", "out w z"), ("out z w", "out z f w"),
                ("w = choose f n m", "w = op not z"),
                ("m = op not v", "m = op and v h"), ("m = op not v", "m = const lot(no,yes) no v"),
                ("k = choose c j y", "k = choose c x y"), ("j = when i c no", "j = when c c no"),
            ]:
                self.compiles(read_program(text.replace(old, new)), chance, 20)


    def test_programs_like_these(self):
        chance = random.Random(67)
        many = 0
        for _ in range(2000):
            nodes = read_program(DEAD + DEAD_MAIN).nodes()
            for _ in range(chance.randint(1, 3)):
                place = chance.randrange(2)
                nodes[place] = with_other_equation(nodes[place], chance)
            try:
                made = Program(nodes)
            except TickError:
                continue
            if is_swift(made):
                many += 1
                self.compiles(made, chance, 3)
        self.assertGreater(many, 100)


def with_other_equation(node, chance):
    """A node in which one equation, but a call, is another one of truths."""
    equations = list(node[3])
    place = chance.randrange(len(equations))
    names, right = equations[place]
    streams = [word for word, _ in node[1]] + [name for names, _ in equations for name in names]
    one, other, third = [chance.choice(streams) for _ in range(3)]
    kind, word = ("lot", ("no", "yes")), chance.choice(["no", "yes"])
    if right[0] != "call":
        rights = [("op", "not", (one,)), ("op", "and", (one, other)), ("held", kind, word, one, other),
                  ("when", one, other, word), ("choose", one, (other, third)), ("const", kind, word, one)]
        if right[0] == "when":
            rights += [("when", one, *right[2:]), (*right[:2], one, word), (*right[:3], word)]
        if right[0] == "choose":
            rights += [("choose", right[1], (right[2][0], one)), ("choose", right[1], (one, right[2][1]))]
        equations[place] = (names, chance.choice(rights))
    return (*node[:3], tuple(equations))


class TestChanged(Case):
    """Rows with parts changed, against the words of the document."""

    def check(self, made, rows, chance):
        """Checks what the judge tells of rows in form; whether they are let by."""
        words = Words(made)
        want = words.fault(rows)
        self.exact(judge_rows(made, rows), want)
        if want is None:
            cells = sorted({cell for cell, _ in words.facts})
            self.exact(facts_behind(made, rows), [(cell, tuple(words.of(words.facts, cell))) for cell in cells])
            for state, inputs in drawn_ticks(made, chance, 2):
                self.exact(run_rows(made, rows, state, inputs), tick(made, state, inputs))
        return want is None

    def changed(self, programs, seed, count):
        """Checks changed rows of programs; how many were let by."""
        chance = random.Random(seed)
        many = 0
        for made in programs:
            base = compiled(made)
            for shorter in [merged, bared, shared]:
                if chance.random() < 0.3:
                    base = shorter(made, base)
            change = Change(chance, made)
            for _ in range(count):
                rows = base
                for _ in range(chance.randint(1, 3)):
                    rows = change.changed(rows)
                if len(repr(rows)) < 20000:
                    many += self.check(made, rows, chance)
        return many

    def test_drawn_programs(self):
        self.assertGreater(self.changed(swift_programs(64, 120), 64, 8), 100)

    def test_odd_programs(self):
        self.assertGreater(self.changed(swift_programs(65, 120, True), 65, 8), 100)

    def test_dead_places(self):
        programs = [read_program(DEAD + DEAD_MAIN), read_program(DEAD + DEAD_HELD)]
        self.assertGreater(self.changed(programs, 66, 60), 10)
        self.assertEqual(len(written_out(programs[0])), 22)
