"""Programs written out: [2.4]."""

from cases import Case
from samples import (
    ALL, BOTH, COLOURS, COUNTER, FOUR, KEYWORDS, NESTED, OPS, PART, PROGRAMS, SUM, TWICE, TWO, YES_NO,
)
from tickworks.nodes import Program
from tickworks.written import helds_of, written_out, written_types

TWICE_ROWS = [
    ("s", ("input", FOUR)), ("p.step", ("arg", ("s",), 0)),
    ("p.n", ("held", FOUR, 0, "p.m", "p.step", ())), ("p.m", ("op", "plus", ("p.n", "p.step"))),
    ("p", ("as", "p.m")),
]

ALL_ROWS = [
    ("s", ("input", TWO)), ("t", ("input", YES_NO)),
    ("x.i", ("arg", ("s", "t"), 0)), ("x.j", ("arg", ("s", "t"), 1)),
    ("x.a", ("const", BOTH, ("red", 1), "x.i")), ("x.b", ("table", TWO, (0, 1, 1, 0), ("x.i", "x.j"))),
    ("x.h", ("held", TWO, 1, "x.b", "x.i", ())), ("x.w", ("when", "x.i", "x.j", "yes")),
    ("x.v", ("when", "x.i", "x.j", "no")), ("x.c", ("choose", "x.j", ("x.v", "x.w"))),
    ("x.p", ("op", "plus", ("x.i", "x.h"))), ("x", ("as", "x.a")), ("y", ("as", "x.b")),
    ("z.i", ("arg", ("s", "t", "t"), 0)), ("z.j", ("arg", ("s", "t", "t"), 1)),
    ("z.a", ("const", BOTH, ("red", 1), "z.i")), ("z.b", ("table", TWO, (0, 1, 1, 0), ("z.i", "z.j"))),
    ("z.h", ("held", TWO, 1, "z.b", "z.i", (("t", "yes"),))), ("z.w", ("when", "z.i", "z.j", "yes")),
    ("z.v", ("when", "z.i", "z.j", "no")), ("z.c", ("choose", "z.j", ("z.v", "z.w"))),
    ("z.p", ("op", "plus", ("z.i", "z.h"))), ("z", ("as", "z.a")), ("q", ("as", "z.b")),
]

NESTED_ROWS = [
    ("k", ("input", FOUR)), ("r", ("input", COLOURS)), ("c", ("table", YES_NO, ("no", "yes"), ("r",))),
    ("o.by", ("arg", ("k", "c", "r"), 0)), ("o.clear", ("arg", ("k", "c", "r"), 1)),
    ("o.out.up", ("arg", ("o.by", "o.clear", "o.clear"), 0)),
    ("o.out.off", ("arg", ("o.by", "o.clear", "o.clear"), 1)),
    ("o.out.n", ("held", FOUR, 1, "o.out.m", "o.out.up", (("r", "blue"), ("o.clear", "yes")))),
    ("o.out.m", ("op", "plus", ("o.out.n", "o.out.up"))), ("o.out", ("as", "o.out.n")),
    ("o.old", ("held", FOUR, 3, "o.out", "o.by", (("r", "blue"),))),
    ("o", ("as", "o.out")), ("u", ("as", "o.old")), ("last", ("held", FOUR, 2, "u", "k", ())),
    ("e.up", ("arg", ("k", "c"), 0)), ("e.off", ("arg", ("k", "c"), 1)),
    ("e.n", ("held", FOUR, 1, "e.m", "e.up", ())), ("e.m", ("op", "plus", ("e.n", "e.up"))),
    ("e", ("as", "e.n")),
]

KEYWORDS_ROWS = [
    ("when", ("input", YES_NO)), ("choose", ("input", TWO)),
    ("table.node", ("arg", ("when", "choose", "when"), 0)), ("table.out", ("arg", ("when", "choose", "when"), 1)),
    ("table.in", ("when", "table.out", "table.node", "yes")), ("table.call", ("when", "table.out", "table.node", "no")),
    ("table.op", ("choose", "table.node", ("table.call", "table.in"))),
    ("table.held", ("const", ("lot", ("const", "held")), "held", "table.op")),
    ("table", ("as", "table.in")), ("const", ("as", "table.op")),
]

OPS_ROWS = [
    ("x", ("input", TWO)), ("y", ("input", ("count", 3))), ("b", ("input", YES_NO)),
    ("p", ("op", "pair", ("x", "y"))), ("f", ("op", "first", ("p",))), ("g", ("op", "second", ("p",))),
    ("u", ("op", "same", ("f", "x"))), ("l", ("op", "less", ("g", "y"))), ("a", ("op", "and", ("u", "b"))),
    ("o", ("op", "or", ("a", "l"))), ("n", ("op", "not", ("o",))),
]


class TestWritten(Case):
    """written_out, written_types and helds_of"""

    def check_types(self, made, kinds):
        """Checks the types of the written-out streams, in their order."""
        streams = [stream for stream, _ in written_out(made)]
        self.exact(written_types(made), dict(zip(streams, kinds)))
        self.exact(list(written_types(made)), streams)

    def test_rows(self):
        for nodes, rows in [([SUM, TWICE], TWICE_ROWS), (ALL, ALL_ROWS), (NESTED, NESTED_ROWS),
                            (KEYWORDS, KEYWORDS_ROWS), ([OPS], OPS_ROWS)]:
            self.exact(written_out(Program(nodes)), rows)
            self.exact(written_out(Program(tuple(nodes))), rows)

    def test_types(self):
        self.check_types(Program([SUM, TWICE]), [FOUR] * 5)
        half = [TWO, YES_NO, BOTH, TWO, TWO, TWO, TWO, TWO, TWO, BOTH, TWO]
        self.check_types(Program(ALL), [TWO, YES_NO] + half + half)
        self.check_types(Program(NESTED), [
            FOUR, COLOURS, YES_NO, FOUR, YES_NO, FOUR, YES_NO, FOUR, FOUR, FOUR, FOUR, FOUR, FOUR, FOUR,
            FOUR, YES_NO, FOUR, FOUR, FOUR])
        self.check_types(Program(KEYWORDS), [
            YES_NO, TWO, YES_NO, TWO, TWO, TWO, TWO, ("lot", ("const", "held")), TWO, TWO])
        for nodes in PROGRAMS.values():
            made = Program(nodes)
            own = dict(made.streams_at(nodes[-1][0]))
            told = {stream: kind for stream, kind in written_types(made).items() if "." not in stream}
            self.assertEqual(told, own)

    def test_helds(self):
        self.exact(helds_of(Program([SUM, TWICE])), ["p.n"])
        self.exact(helds_of(Program(ALL)), ["x.h", "z.h"])
        self.exact(helds_of(Program(NESTED)), ["o.out.n", "o.old", "last", "e.n"])
        self.exact(helds_of(Program([PART])), [])
        self.exact(helds_of(Program(KEYWORDS)), [])

    def test_three_calls_deep(self):
        def layer(name, inner, word):
            call = (("g",), ("call", inner, ("f",), ("b", word)))
            bit = (("b",), ("op", "same", ("f", "f")))
            return (name, (("f", FOUR),), ("g",), (bit, call) if inner == "sum" else (call, bit))
        nodes = [SUM, layer("one", "sum", "yes"), layer("two", "one", "no"), layer("three", "two", "yes")]
        rows = written_out(Program(nodes))
        agains = (("b", "yes"), ("g.b", "no"), ("g.g.b", "yes"))
        self.exact(rows, [
            ("f", ("input", FOUR)), ("g.f", ("arg", ("f", "b"), 0)), ("g.g.f", ("arg", ("g.f", "g.b"), 0)),
            ("g.g.b", ("op", "same", ("g.g.f", "g.g.f"))), ("g.g.g.step", ("arg", ("g.g.f", "g.g.b"), 0)),
            ("g.g.g.n", ("held", FOUR, 0, "g.g.g.m", "g.g.g.step", agains)),
            ("g.g.g.m", ("op", "plus", ("g.g.g.n", "g.g.g.step"))), ("g.g.g", ("as", "g.g.g.m")),
            ("g.g", ("as", "g.g.g")), ("g.b", ("op", "same", ("g.f", "g.f"))), ("g", ("as", "g.g")),
            ("b", ("op", "same", ("f", "f"))),
        ])

    def test_an_again_is_for_its_own_call_alone(self):
        user = ("user", (("f", FOUR), ("b", YES_NO)), ("h",), (
            (("h",), ("held", FOUR, 3, "f", "f")),
            (("a",), ("call", "counter", ("f", "b"), ("b", "no"))),
            (("c",), ("call", "counter", ("a", "b"), None)),
            (("i",), ("held", FOUR, 2, "c", "f")),
            (("d",), ("call", "counter", ("f", "b"), ("b", "yes"))),
        ))
        rows = written_out(Program([COUNTER, user]))
        agains = {stream: right[5] for stream, right in rows if right[0] == "held"}
        self.exact(agains, {"h": (), "a.n": (("b", "no"),), "c.n": (), "i": (), "d.n": (("b", "yes"),)})
        self.exact([right[1] for stream, right in rows if right[0] == "arg"],
                   [("f", "b", "b")] * 2 + [("a", "b")] * 2 + [("f", "b", "b")] * 2)

    def test_the_first_name_makes_the_path(self):
        made = Program(KEYWORDS)
        self.exact([stream for stream in written_types(made) if "." in stream and not stream.startswith("table.")], [])

    def test_nodes_that_are_not_called(self):
        self.exact(written_out(Program([SUM, COUNTER, PART, TWICE])), TWICE_ROWS)
        self.exact(written_out(Program([SUM]))[0], ("step", ("input", FOUR)))

    def test_new_lists_and_dicts(self):
        for nodes in PROGRAMS.values():
            made = Program(nodes)
            self.fresh(written_out, made)
            self.fresh(written_types, made)
            self.fresh(helds_of, made)
            self.exact(made.nodes(), nodes)
