"""The examples of the interface, as they are shown there."""

from cases import Case
from tickworks.errors import (
    BadInputs, BadProgram, BadState, BadText, BadType, BadValue, MixedTypes, UnknownName,
)
from tickworks.nodes import Program, type_at
from tickworks.nodetexts import program_text, read_program
from tickworks.rounds import filled_by, filling, first_state, rounds
from tickworks.runs import present_in, run, state_after, tick
from tickworks.standings import is_below, operands_of, standing_of
from tickworks.texts import read_stream, read_type, read_value, stream_text, type_text, value_text
from tickworks.types import YES_NO, check_type, is_value, many, place_of, value_at, values_of
from tickworks.written import helds_of, written_out, written_types

BOTH = ("pair", ("lot", ("red", "blue")), ("count", 2))
FOUR = ("count", 4)
ABSENT = ("absent",)
THERE = ("there",)
UNKNOWN = ("unknown",)
SUM = ("sum", (("step", ("count", 4)),), ("m",), (
    (("n",), ("held", ("count", 4), 0, "m", "step")), (("m",), ("op", "plus", ("n", "step")))))
TWO = ("two", (("s", ("count", 4)),), ("p",), ((("p",), ("call", "sum", ("s",), None)),))
ADDS = Program([("adds", (("step", FOUR),), ("m",), (
    (("n",), ("held", FOUR, 0, "m", "step")), (("m",), ("op", "plus", ("n", "step")))))])
RING = Program([("ring", (("step", FOUR),), ("m",), (
    (("n",), ("held", FOUR, 0, "m", "one")), (("m",), ("op", "plus", ("n", "one"))),
    (("one",), ("const", FOUR, 1, "m"))))])
PART = Program([("part", (("s", FOUR), ("b", ("lot", ("no", "yes")))), ("x", "z"), (
    (("x",), ("when", "s", "b", "yes")), (("y",), ("when", "s", "b", "no")),
    (("z",), ("choose", "b", ("x", "y")))))])


class TestExamples(Case):
    """Stages 1 to 3."""

    def test_types(self):
        self.exact([check_type(BOTH), many(BOTH), values_of(BOTH)],
                   [None, 4, [("red", 0), ("red", 1), ("blue", 0), ("blue", 1)]])
        self.exact([place_of(BOTH, ("blue", 0)), value_at(BOTH, 1), is_value(BOTH, ("blue", 2)),
                    is_value(YES_NO, "yes")], [2, ("red", 1), False, True])
        self.raised(BadValue, {"path": (1,)}, place_of, BOTH, ("blue", 2))
        self.raised(BadType, {"path": (2,)}, check_type, ("pair", ("count", 2), ("lot", ("red", "red"))))

    def test_texts(self):
        self.exact([type_text(BOTH), value_text(BOTH, ("blue", 1)), stream_text(YES_NO, ["yes", None, "no"]),
                    stream_text(YES_NO, [])], ["pair(lot(red,blue),count(2))", "(blue,1)", "yes - no", ""])
        self.exact([read_type("count(6)"), read_value(BOTH, "(red,1)"), read_stream(BOTH, "- (red,0)")],
                   [("count", 6), ("red", 1), [None, ("red", 0)]])
        self.raised(BadText, {"place": 4}, read_stream, YES_NO, "yes  no")

    def test_nodes(self):
        self.exact([Program([SUM]).streams_at("sum"), len(Program([SUM, TWO])),
                    type_at(Program([SUM, TWO]), "two", "p")],
                   [[("step", ("count", 4)), ("n", ("count", 4)), ("m", ("count", 4))], 2, ("count", 4)])
        self.raised(UnknownName, {"name": "sum"}, Program, [TWO, SUM])
        mixed = ("x", (("i", ("count", 2)),), ("a",), ((("a",), ("op", "not", ("i",))),))
        self.raised(MixedTypes, {"node": "x", "stream": "a"}, Program, [mixed])
        wrong = ("x", (("i", ("count", 2)),), ("a",), ((("a",), ("op", "not", ("i", "i"))),))
        self.raised(BadProgram, {"path": (0, 3, 0, 1, 2)}, Program, [wrong])

    def test_written(self):
        rows = written_out(Program([SUM, TWO]))
        self.exact(rows[:3], [("s", ("input", ("count", 4))), ("p.step", ("arg", ("s",), 0)),
                              ("p.n", ("held", ("count", 4), 0, "p.m", "p.step", ()))])
        self.exact([rows[3:], helds_of(Program([SUM, TWO])), list(written_types(Program([SUM, TWO])))],
                   [[("p.m", ("op", "plus", ("p.n", "p.step"))), ("p", ("as", "p.m"))], ["p.n"],
                    ["s", "p.step", "p.n", "p.m", "p"]])

    def test_nodetexts(self):
        self.exact(program_text(Program([SUM, TWO])).split("\n"), [
            "node sum", "in step count(4)", "out m", "n = held count(4) 0 m step", "m = op plus n step",
            "node two", "in s count(4)", "out p", "p = call sum s", ""])
        text = "node x\nin i count(2)\nout a\na = table lot(a,b) b a : i\n"
        self.exact(read_program(text).nodes(), [("x", (("i", ("count", 2)),), ("a",), (
            (("a",), ("table", ("lot", ("a", "b")), ("b", "a"), ("i",))),))])
        self.raised(BadText, {"place": 2}, read_program, "node x\nin i count(2)\na = op not i\n")

    def test_standings(self):
        self.exact([is_below(THERE, ("value", 3)), is_below(ABSENT, ("value", 3)), is_below(ABSENT, ("clash",))],
                   [True, False, True])
        when = ("when", "s", "b", "yes")
        self.exact([standing_of(when, [FOUR, YES_NO], [UNKNOWN, ("value", "no")], None),
                    standing_of(when, [FOUR, YES_NO], [THERE, ABSENT], None)], [("absent",), ("clash",)])
        held = ("held", FOUR, 0, "m", "i", ())
        self.exact([standing_of(held, [FOUR, FOUR], [UNKNOWN, THERE], 2), operands_of(("choose", "b", ("y", "x")))],
                   [("value", 2), ("b", "y", "x")])

    def test_rounds(self):
        self.exact([first_state(ADDS), filling(ADDS, (3,), (2,)), len(rounds(ADDS, (3,), (2,)))],
                   [(0,), {"step": ("value", 2), "n": ("value", 3), "m": ("value", 1)}, 3])
        self.exact(filled_by(ADDS, (3,), (2,), ["m"]),
                   {"step": ("value", 2), "n": ("unknown",), "m": ("there",)})
        self.raised(BadState, {}, filling, ADDS, (4,), (2,))

    def test_runs(self):
        self.exact([run(ADDS, [(1,), (1,), (3,)]), state_after(ADDS, (0,), [(1,), (1,)])],
                   [[("good", (1,), (1,)), ("good", (2,), (2,)), ("good", (1,), (1,))], (2,)])
        self.exact([tick(RING, (0,), (1,)), present_in(RING, (0,), (1,))], [("stuck", ("n", "m", "one")), None])
        self.exact([tick(PART, (), (3, "yes")), tick(PART, (), (3, "no"))], [("clash", ("z",)), ("clash", ("z",))])
        self.raised(BadInputs, {"number": 1}, run, ADDS, [(1,), (4,)])
