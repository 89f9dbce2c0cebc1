"""What streams of a node alone ask for and need: [7.1]."""

from cases import Case, NOTHINGS
from drawn import swift_programs
from samples import COUNTER, FOUR, HALVES, NESTED, SOMETIMES, SUM, TWICE
from tickworks.clocks import written_clocks
from tickworks.errors import UnknownName
from tickworks.needs import needs, stream_asks
from tickworks.nodes import Program
from tickworks.nodetexts import read_program
from tickworks.rounds import filling
from tickworks.types import values_of
from tickworks.written import helds_of, written_out, written_types

PAIRED = read_program("""node low
in a count(2)
in b lot(no,yes)
out o p
o = op not b
p = op plus a a
node main
in s count(2)
in t lot(no,yes)
out o p
o p = call low s t
""")


def alone(made, name):
    """The program whose nodes end with this one."""
    names = [node[0] for node in made.nodes()]
    return Program(made.nodes()[:names.index(name) + 1])


def asked_by_words(made, name):
    """What streams ask for, by the words of [7.1]."""
    node = alone(made, name)
    clocks = written_clocks(node)
    found = {}
    for stream, right in written_out(node):
        if right[0] == "input":
            continue
        asked = {
            "op": lambda: right[2], "table": lambda: right[3], "as": lambda: right[1:2],
            "arg": lambda: [right[1][right[2]]],
            "when": lambda: right[1:3], "choose": lambda: [right[1], *right[2]], "const": lambda: [],
            "held": lambda: [],
        }[right[0]]()
        asked = set(asked) | {cond for cond, _ in clocks[stream]}
        found[stream] = tuple(other for other, _ in written_out(node) if other in asked)
    return found


class TestAsks(Case):
    """stream_asks"""

    def test_each_kind_of_row(self):
        made = read_program("""node n
in s count(2)
in b lot(no,yes)
out o z
o = op less s h
h = held count(2) 0 s s
t = table count(2) 0 1 1 0 : s b
w = when t b yes
v = when s b no
z = choose b v w
k = const count(2) 1 w
g = held count(2) 0 w k
""")
        self.exact(stream_asks(made, "n"), {
            "o": ("s", "h"), "h": (), "t": ("s", "b"), "w": ("b", "t"), "v": ("s", "b"), "z": ("b", "w", "v"),
            "k": ("b",),
            "g": ("b",)})

    def test_calls(self):
        self.exact(stream_asks(PAIRED, "main"), {
            "o.a": ("s",), "o.b": ("t",), "o.o": ("o.b",), "o.p": ("o.a",), "o": ("o.o",), "p": ("o.p",)})
        self.exact(stream_asks(PAIRED, "low"), {"o": ("b",), "p": ("a",)})
        self.exact(stream_asks(Program([SUM, TWICE]), "two"), {
            "p.step": ("s",), "p.n": (), "p.m": ("p.step", "p.n"), "p": ("p.m",)})

    def test_conds_on_clocks(self):
        made = read_program("""node low
in a count(2)
in c lot(no,yes)
out d x
d = op not c
x = when a d yes
node main
in s count(2)
in t lot(no,yes)
out e y
u = op not t
e y = call low s u
z = op plus y y
v = when e e no
w = when v v no
k = const count(2) 1 w
""")
        self.exact(stream_asks(made, "main"), {
            "u": ("t",), "e.a": ("s",), "e.c": ("u",), "e.d": ("e.c",), "e.x": ("e.a", "e.d"), "e": ("e.d",),
            "y": ("e.d", "e.x"), "z": ("e.d", "y"), "v": ("e.d", "e"), "w": ("e.d", "v"), "k": ("e.d", "v")})

    def test_conds_that_are_inputs_of_calls(self):
        made = read_program("""node low
in a count(2)
in c lot(no,yes)
out x
x = when a c yes
node main
in s count(2)
in t lot(no,yes)
out u
u = op not t
y = call low s u
""")
        self.exact(stream_asks(made, "main"), {
            "u": ("t",), "y.a": ("s",), "y.c": ("u",), "y.x": ("u", "y.a", "y.c"), "y": ("u", "y.x")})
        self.exact(stream_asks(made, "low"), {"x": ("a", "c")})

    def test_nodes_behind_are_not_looked_at(self):
        bad = ("bad", (("i", FOUR),), ("o",), ((("o",), ("op", "plus", ("i", "o"))),))
        for nodes in [[SUM, TWICE, bad], [SUM, bad], [SUM, TWICE]]:
            self.exact(stream_asks(Program(nodes), "sum"), {"n": (), "m": ("step", "n")})
            self.exact(needs(Program(nodes), "sum", "m"), ("step",))

    def test_by_the_words(self):
        for made in swift_programs(81, 60) + swift_programs(82, 60, True):
            for node in [made.nodes()[0], made.main()]:
                self.exact(stream_asks(made, node[0]), asked_by_words(made, node[0]))

    def test_new_dicts(self):
        self.fresh(stream_asks, PAIRED, "main")


class TestNeeds(Case):
    """needs"""

    def test_needs(self):
        for stream, want in {"o.a": "s", "o.b": "t", "o.o": "t", "o.p": "s", "o": "t", "p": "s"}.items():
            self.exact(needs(PAIRED, "main", stream), (want,))
        made = Program([HALVES])
        self.exact([needs(made, "halves", stream) for stream in "xyz"], [("s", "b")] * 3)
        made = Program([SOMETIMES])
        self.exact([needs(made, "some", stream) for stream in "wnt"], [("b", "s"), ("b",), ("b", "s")])
        made = Program(NESTED[:2])
        self.exact([needs(made, "middle", stream) for stream in ["out.up", "out.n", "out.m", "out", "old"]],
                   [("by",), (), ("by",), (), ()])
        self.exact(needs(Program([COUNTER]), "counter", "n"), ())

    def test_inputs_stand_in_their_order(self):
        made = read_program("""node n
in a count(2)
in b count(2)
in c count(2)
out o
o = op plus d c
d = op plus b e
e = op plus a a
""")
        self.exact([needs(made, "n", stream) for stream in "ode"], [("a", "b", "c"), ("a", "b"), ("a",)])

    def test_by_the_words(self):
        for made in swift_programs(83, 40) + swift_programs(84, 40, True):
            name = made.main()[0]
            asked = asked_by_words(made, name)
            sources = [word for word, _ in made.main()[1]]
            for stream in asked:
                met, waiting = set(), [stream]
                while waiting:
                    fresh = set(asked.get(waiting.pop(), ())) - met
                    met |= fresh
                    waiting += fresh
                self.exact(needs(made, name, stream), tuple(word for word in sources if word in met))

    def test_what_is_not_needed_does_not_matter(self):
        for made in swift_programs(85, 40):
            node = made.main()
            types = written_types(made)
            state = tuple(values_of(types[held])[0] for held in helds_of(made))
            first = {word: values_of(kind)[0] for word, kind in node[1]}
            for word, kind in node[1]:
                ahead = filling(made, state, tuple(first.values()))
                for value in values_of(kind):
                    found = filling(made, state, tuple({**first, word: value}.values()))
                    for stream in stream_asks(made, node[0]):
                        if word not in needs(made, node[0], stream):
                            self.exact(found[stream], ahead[stream])

    def test_unknown_names(self):
        for name in [*NOTHINGS, "s", "o", ["low"], ("low",), {"low": 1}, "Low"]:
            self.apart(self.raised(UnknownName, {"name": name}, stream_asks, PAIRED, name), name)
            for stream in ["o", "nothing", None, []]:
                self.apart(self.raised(UnknownName, {"name": name}, needs, PAIRED, name, stream), name)
        for stream in [*NOTHINGS, "a", "b", "low", "o.a", ["o"], ("o",), {"o": 1}, "s"]:
            self.apart(self.raised(UnknownName, {"name": stream}, needs, PAIRED, "low", stream), stream)
        for stream in ["s", "t", "a", "main", "o.s"]:
            self.raised(UnknownName, {"name": stream}, needs, PAIRED, "main", stream)
