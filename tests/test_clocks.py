"""Clocks that are told: [4.1], [4.2], [4.4]."""

from cases import Case, NOTHINGS
from drawn import drawn_programs
from samples import PROGRAMS
from test_rounds import some_ticks
from tickworks.clocks import clocks, is_open, output_clocks, written_clocks
from tickworks.errors import Ring, Unclocked, UnknownName
from tickworks.nodes import Program
from tickworks.nodetexts import read_program
from tickworks.rounds import filling
from tickworks.runs import tick
from tickworks.written import written_out

# Outputs on clocks of other outputs, calls in calls, and calls that are not on the base clock.
LOW = """node low
in s count(4)
in b lot(no,yes)
out z x
z = op not b
x = when s z yes
"""
MID = """node mid
in b lot(no,yes)
in s count(4)
out k y
c = when b b yes
d = when s b yes
k y = call low d c
"""
TOP = """node top
in e lot(no,yes)
in s count(4)
out k y
k y = call mid e s
f = when e e no
g = when s e no
m p = call low g f
j = op plus p p
"""
# Of each type, streams on the base clock and on two others.
HEAD = """node head
in s count(4)
in b lot(no,yes)
in d lot(no,yes)
out q
q = op not b
x = when s b yes
v = when s d yes
c = when d b yes
"""


def unclocked(made, node, *told):
    """The pair of Unclocked and of its attributes."""
    return Unclocked, dict(zip(["node", "stream", "one", "other"], (node, *told)))


class TestTold(Case):
    """The clockings that are told."""

    def test_each_right_side(self):
        made = read_program("""node sides
in s count(4)
in b lot(no,yes)
out z y
x = when s b yes
c = const count(2) 1 x
h = held count(4) 2 x c
o = op plus x h
t = table count(2) 0 1 0 1 : x
z = choose b v x
v = when s b no
y = op less z s
""")
        b = (("b", "yes"),)
        want = {"s": (), "b": (), "x": b, "c": b, "h": b, "o": b, "t": b, "z": (), "v": (("b", "no"),), "y": ()}
        self.exact(clocks(made, "sides"), want)
        self.exact(output_clocks(made, "sides"), {"z": (), "y": ()})

    def test_clocks_behind_clocks(self):
        made = read_program("""node n
in k lot(one,two,tre)
in s count(2)
out z
a = when s k one
z = choose k a c e
c = when s k two
e = when s k tre
f = when k k two
g = when c f tre
i = when f f one
p = const count(2) 0 g
""")
        self.exact(clocks(made, "n"), {
            "k": (), "s": (), "a": (("k", "one"),), "z": (), "c": (("k", "two"),), "e": (("k", "tre"),),
            "f": (("k", "two"),), "g": (("k", "two"), ("f", "tre")), "i": (("k", "two"), ("f", "one")),
            "p": (("k", "two"), ("f", "tre"))})

    def test_telling_streams_that_come_behind(self):
        made = read_program(LOW + """node n
in b lot(no,yes)
in s count(4)
out q
p = op plus x x
o x = call low v e
v = held count(4) 0 w w
e = op not f
w = when r b yes
f = when b b yes
r = op plus s s
q = op not b
""")
        b = (("b", "yes"),)
        self.exact(clocks(made, "n"), {
            "b": (), "s": (), "p": b + (("o", "yes"),), "o": b, "x": b + (("o", "yes"),), "v": b, "e": b, "w": b, "f": b,
            "r": (), "q": ()})

    def test_calls_and_outer_clocks(self):
        made = read_program(LOW + MID + TOP)
        self.exact(clocks(made, "low"), {"s": (), "b": (), "z": (), "x": (("z", "yes"),)})
        b, e = (("b", "yes"),), (("e", "no"),)
        self.exact(clocks(made, "mid"), {"b": (), "s": (), "c": b, "d": b, "k": b, "y": b + (("k", "yes"),)})
        self.exact(clocks(made, "top"), {
            "e": (), "s": (), "k": (("e", "yes"),), "y": (("e", "yes"), ("k", "yes")), "f": e, "g": e, "m": e,
            "p": e + (("m", "yes"),), "j": e + (("m", "yes"),)})
        self.exact(output_clocks(made, "mid"), {"k": b, "y": b + (("k", "yes"),)})
        self.exact(output_clocks(made, "top"), {"k": (("e", "yes"),), "y": (("e", "yes"), ("k", "yes"))})

    def test_outputs_stand_in_their_order(self):
        made = read_program(LOW.replace("out z x", "out x z"))
        self.assertEqual(list(output_clocks(made, "low")), ["x", "z"])

    def test_one_argument_of_a_call_for_two_inputs(self):
        made = read_program("""node two
in a lot(no,yes)
in b lot(no,yes)
out x y
x = when a b yes
y = when b a no
node main
in i lot(no,yes)
out p q
p q = call two i i
""")
        self.exact(clocks(made, "main"), {"i": (), "p": (("i", "yes"),), "q": (("i", "no"),)})

    def test_drawn_programs(self):
        for odd in [False, True]:
            for made, kept in drawn_programs(11, 150, odd):
                for node in made.nodes():
                    want = {stream: kept[node[0]][stream] for stream, _ in made.streams_at(node[0])}
                    self.exact(clocks(made, node[0]), want)
                    self.exact(output_clocks(made, node[0]), {output: want[output] for output in node[2]})

    def test_new_dicts(self):
        made = read_program(LOW + MID + TOP)
        for name in ["low", "mid", "top"]:
            self.fresh(clocks, made, name)
            self.fresh(output_clocks, made, name)
        self.fresh(written_clocks, made)


class TestRings(Case):
    """Streams that get no clock."""

    def rings(self, equations, streams):
        """Checks the ring of a node "n" with these equations."""
        head = "node n\nin s count(4)\nin b lot(no,yes)\nout o\no = op not b\n"
        made = read_program(LOW + head + equations)
        self.raised(Ring, {"streams": streams}, clocks, made, "n")
        self.raised(Ring, {"streams": streams}, output_clocks, made, "n")
        self.raised(Ring, {"streams": streams}, written_clocks, made)

    def test_rings(self):
        self.rings("n = held count(4) 0 s n\n", ("n",))
        self.rings("n = const count(4) 0 n\n", ("n",))
        self.rings("n = op plus n s\n", ("n",))
        self.rings("n = table lot(no,yes) no yes : m\nm = op not n\n", ("n", "m"))
        self.rings("w = when v b yes\nv = op plus v s\n", ("w", "v"))
        self.rings("w = when v b yes\nv = op plus w s\n", ("w", "v"))
        self.rings("v = choose c s s\nc = op not d\nd = op not c\n", ("v", "c", "d"))
        self.rings("x y = call low v d\nv = const count(4) 0 y\nd = op and b x\n", ("x", "y", "v"))

    def test_what_hangs_on_a_ring(self):
        self.rings("v = op plus w s\nt = op same v s\nu = op same s s\nw = op plus v s\nx = const count(2) 0 t\n",
                   ("v", "t", "w", "x"))

    def test_telling_streams_alone_tell(self):
        head = "node n\nin s count(4)\nin b lot(no,yes)\nout o\n"
        for equations in [
            "o = op plus s o\n", "n = held count(4) 0 n s\no = op plus s n\n",
            "o = when s b yes\nz = choose b v o\nv = when s b no\n",
        ]:
            made = read_program(head + equations)
            self.assertEqual(list(clocks(made, "n")), [stream for stream, _ in made.streams_at("n")])


class TestUnclocked(Case):
    """Streams that are not on the clock that is due, and outputs whose clock no caller could tell."""

    def wrong(self, equations, stream, due, own):
        """Checks what is told of a node with these equations besides those of HEAD."""
        made = read_program(LOW + HEAD + equations)
        told = {"node": "head", "stream": stream, "one": due, "other": own}
        for call, *args in [(clocks, made, "head"), (output_clocks, made, "head"), (written_clocks, made)]:
            self.raised(Unclocked, told, call, *args)
        self.exact(list(clocks(made, "low")), ["s", "b", "z", "x"])

    def test_each_kind_of_equation(self):
        b, d = (("b", "yes"),), (("d", "yes"),)
        for equation, stream, due, own in [
            ("n = held count(4) 0 x s", "x", (), b), ("n = held count(4) 0 s x", "s", b, ()),
            ("n = held count(4) 0 x v", "x", d, b),
            ("n = op plus s x", "x", (), b), ("n = op plus x s", "s", b, ()), ("n = op plus x v", "v", b, d),
            ("n = table count(2) " + "0 " * 16 + ": s x", "x", (), b),
            ("n = table count(2) " + "0 " * 32 + ": b s x", "x", (), b),
            ("n = table count(2) " + "0 " * 32 + ": b x v", "x", (), b),
            ("n = when s c yes", "c", (), b), ("n = when x b yes", "b", b, ()), ("n = when x d yes", "d", b, ()),
            ("n = choose b s x", "s", (("b", "no"),), ()), ("n = choose b x x", "x", (("b", "no"),), b),
            ("n = choose d x v", "x", (("d", "no"),), b), ("n = choose c x v", "x", b + (("c", "no"),), b),
            ("n m = call low s c", "c", (), b), ("n m = call low x b", "b", b, ()),
            ("n m = call low s b : c yes", "c", (), b), ("n m = call low x c : d yes", "d", b, ()),
            ("n m = call low x b : d yes", "b", b, ()), ("n m = call low s c : c no", "c", (), b),
        ]:
            with self.subTest(equation=equation):
                self.wrong(equation + "\n", stream, due, own)

    def test_the_last_branch(self):
        equations = "a = when s b no\nn = choose b a a\n"
        self.wrong(equations, "a", (("b", "yes"),), (("b", "no"),))
        self.wrong("a = when s b no\nn = choose b a v\n", "v", (("b", "yes"),), (("d", "yes"),))

    def test_the_first_equation(self):
        self.wrong("n = op plus s x\nm = op plus s v\n", "x", (), (("b", "yes"),))
        self.wrong("m = op plus s v\nn = op plus s x\n", "v", (), (("d", "yes"),))
        made = read_program(HEAD.replace("q = op not b", "q = op and b c") + "m = op plus s v\n")
        self.raised(*unclocked(made, "head", "c", (), (("b", "yes"),)), clocks, made, "head")

    def test_rings_come_ahead_of_clocks(self):
        made = read_program(HEAD + "n = op plus s x\nm = op plus m s\n")
        self.raised(Ring, {"streams": ("m",)}, clocks, made, "head")

    def test_clocks_with_other_names_are_others(self):
        made = read_program(HEAD + "e = op not q\nn = when s e yes\nm = op plus x n\n")
        self.raised(*unclocked(made, "head", "n", (("b", "yes"),), (("e", "yes"),)), clocks, made, "head")

    def test_outputs(self):
        head = "node n\nin s count(4)\nin b lot(no,yes)\nout {}\nz = op not b\nx = when s z yes\n" \
               "w = when z z yes\ny = when x w no\no = op same x x\n"
        z = (("z", "yes"),)
        for outputs, told in [
            ("x", ("x", z, ())), ("z x", None), ("x z", None), ("o", ("o", z, ())), ("o x z", None),
            ("y", ("y", z + (("w", "no"),), ())), ("z y", ("y", z + (("w", "no"),), z)), ("w y z", None),
            ("w y", ("w", z, ())), ("y w", ("y", z + (("w", "no"),), ())), ("z o y x", ("y", z + (("w", "no"),), z)),
        ]:
            made = read_program(head.format(outputs))
            with self.subTest(outputs=outputs):
                if told is None:
                    self.exact(list(output_clocks(made, "n")), outputs.split(" "))
                else:
                    self.raised(*unclocked(made, "n", *told), clocks, made, "n")

    def test_equations_come_ahead_of_outputs(self):
        made = read_program(HEAD.replace("out q", "out n") + "e = op not d\nn = when s e yes\nm = op plus x s\n")
        self.raised(*unclocked(made, "head", "s", (("b", "yes"),), ()), clocks, made, "head")
        made = read_program(HEAD.replace("out q", "out n") + "e = op not d\nn = when s e yes\n")
        self.raised(*unclocked(made, "head", "n", (("e", "yes"),), ()), clocks, made, "head")


class TestNodes(Case):
    """Which nodes are looked at."""

    RING = "node ring\nin i lot(no,yes)\nout o\no = op not o\n"
    BAD = "node bad\nin i lot(no,yes)\nout o\nx = when i i yes\no = op and i x\n"
    FINE = "node fine\nin i lot(no,yes)\nout o\no = op not i\n"

    def test_nodes_ahead(self):
        bad = Unclocked, {"node": "bad", "stream": "x", "one": (), "other": (("i", "yes"),)}
        ring = Ring, {"streams": ("o",)}
        for text, want in [
            ([self.FINE, self.BAD], {"fine": None, "bad": bad}), ([self.BAD, self.FINE], {"bad": bad, "fine": bad}),
            ([self.RING, self.BAD, self.FINE], {"ring": ring, "bad": ring, "fine": ring}),
            ([self.FINE, self.BAD, self.RING, LOW], {"fine": None, "bad": bad, "ring": bad, "low": bad}),
        ]:
            made = read_program("".join(text))
            for name, error in want.items():
                for call in [clocks, output_clocks]:
                    if error is None:
                        self.exact(call(made, name)["o"], ())
                    else:
                        self.raised(*error, call, made, name)
            last = list(want.values())[-1]
            if last is not None:
                self.raised(*last, written_clocks, made)

    def test_unknown_names(self):
        for made in [read_program(self.FINE), read_program(self.BAD), read_program(self.RING + self.FINE)]:
            for name in [*NOTHINGS, "o", "i", "Fine", ["fine"], ("fine",), {"fine": "bad"}, b"fine"]:
                for call in [clocks, output_clocks]:
                    self.apart(self.raised(UnknownName, {"name": name}, call, made, name), name)
        self.untouched(clocks, read_program(self.FINE), "fine")


class TestWritten(Case):
    """Clocks in a program written out, and whether they are open."""

    def test_calls_on_closed_clocks(self):
        made = read_program(LOW + MID + TOP)
        e, mz = (("e", "yes"),), (("e", "no"), ("m.z", "yes"))
        inner = e + (("k.k.z", "yes"),)
        self.exact(written_clocks(made), {
            "e": (), "s": (), "k.b": (), "k.s": (), "k.c": e, "k.d": e, "k.k.s": e, "k.k.b": e, "k.k.z": e,
            "k.k.x": inner, "k.k": e, "k.y": inner, "k": e, "y": inner, "f": (("e", "no"),), "g": (("e", "no"),),
            "m.s": (("e", "no"),), "m.b": (("e", "no"),), "m.z": (("e", "no"),), "m.x": mz, "m": (("e", "no"),),
            "p": mz, "j": mz})

    def test_conds_led_back_through_calls(self):
        made = read_program("""node in
in c lot(no,yes)
in s count(2)
out x n
x = when s c yes
n = op not c
node by
in d lot(no,yes)
in t count(2)
out y m
y m = call in d t
node main
in e lot(no,yes)
in u count(2)
out f z
f = op not e
z l = call by f u
w = when u l no
""")
        f, n = (("f", "yes"),), (("z.y.n", "no"),)
        self.exact(written_clocks(made), {
            "e": (), "u": (), "f": (), "z.d": (), "z.t": (), "z.y.c": (), "z.y.s": (), "z.y.x": f, "z.y.n": (),
            "z.y": f, "z.m": (), "z": f, "l": (), "w": n})

    def test_no_pair_is_left_out(self):
        # c and d copy the same, and v is b wherever it is there, but a when is not led back.
        made = read_program("""node part
in c lot(no,yes)
in d lot(no,yes)
out x y
x = when c d yes
y = when d c yes
node main
in b lot(no,yes)
out q
q = op not b
v w = call part b b
x y = call part v v
z = when v v no
""")
        told = written_clocks(made)
        b = ("b", "yes")
        self.exact([told[stream] for stream in ["v.x", "v.y", "v", "w"]], [(b,)] * 4)
        self.exact([told[stream] for stream in ["x.c", "x.d", "x.x", "x.y", "x", "y"]],
                   [(b,), (b,)] + [(b, ("v.x", "yes"))] * 4)
        self.exact(told["z"], (b, ("v.x", "no")))

    def test_streams_are_there_where_their_clock_is_open(self):
        for odd in [False, True]:
            for made, _ in drawn_programs(12, 60, odd):
                told = written_clocks(made)
                self.exact(list(told), [stream for stream, _ in written_out(made)])
                for state, inputs in some_ticks(made, 12):
                    standings = filling(made, state, inputs)
                    self.assertEqual(tick(made, state, inputs)[0], "good")
                    for stream, clock in told.items():
                        is_here = standings[stream][0] == "value"
                        self.exact(is_open(clock, {cond: standings[cond] for cond, _ in clock}), is_here)

    def test_is_open(self):
        standings = {"b": ("value", "yes"), "c": ("value", "no"), "d": ("absent",), "e": ("there",), "f": ("unknown",),
                     "g": ("clash",)}
        for clock, want in [
            ((), True), ((("b", "yes"),), True), ((("b", "no"),), False), ((("b", "yes"), ("c", "no")), True),
            ((("b", "yes"), ("c", "yes")), False), ((("c", "yes"), ("b", "yes")), False), ((("d", "yes"),), False),
            ((("b", "yes"), ("d", "no")), False), ((("e", "yes"),), False), ((("f", "yes"),), False),
            ((("g", "yes"),), False), ((("b", "yes"), ("b", "yes")), True), ((("b", "yes"), ("b", "no")), False),
        ]:
            self.exact(self.untouched(is_open, clock, standings), want)

    def test_samples(self):
        for name in ["sum", "two", "all", "nested", "crossed", "keeps"]:
            made = Program(PROGRAMS[name])
            told = written_clocks(made)
            for stream, right in written_out(made):
                if right[0] in ("as", "op", "table", "held"):
                    operand = right[1] if right[0] == "as" else right[3] if right[0] == "held" else right[-1][0]
                    self.exact(told[stream], told[operand])
