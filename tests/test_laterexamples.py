"""The examples of the interface, as they are shown there: stages 4 to 7."""

import importlib
import inspect

from cases import Case
from tickworks.clocks import clocks, is_open, judge_clocks, output_clocks, written_clocks
from tickworks.compiler import bared, compiled, merged, shared
from tickworks.errors import Ring
from tickworks.facts import facts_behind, judge_rows
from tickworks.items import asks, deepest, reach
from tickworks.machine import run_rows, run_ticks
from tickworks.needs import needs, stream_asks
from tickworks.nodes import Program
from tickworks.orders import is_swift, judge_order, order_of, why_not
from tickworks.partings import asked_inputs, by_outputs, calling_order, fewest, judge_parting, played, whole_parting
from tickworks.rows import cells_in, form_fault
from tickworks.types import YES_NO

# What the interface lists under each file, with how many arguments each takes.
LISTED = {
    "clocks": {"clocks": 2, "judge_clocks": 2, "output_clocks": 2, "written_clocks": 1, "is_open": 2},
    "items": {"items": 1, "asks": 2, "reach": 2, "levels": 1, "deepest": 1},
    "orders": {"order_of": 1, "judge_order": 2, "judge_ring": 2, "is_swift": 1, "why_not": 1, "settled": 3},
    "rows": {"form_fault": 2, "cells_in": 1}, "machine": {"run_rows": 4, "run_ticks": 3},
    "facts": {"judge_rows": 2, "facts_behind": 2}, "compiler": {"compiled": 1, "merged": 2, "bared": 2, "shared": 2},
    "needs": {"stream_asks": 2, "needs": 3},
    "partings": {
        "judge_parting": 3, "single_parting": 2, "whole_parting": 2, "asked_functions": 3, "asked_inputs": 3,
        "calling_order": 3, "played": 5, "finer": 2, "joined": 3, "fewest": 2, "by_outputs": 2},
}

FOUR = ("count", 4)
C3 = ("count", 3)
YN = ("lot", ("no", "yes"))
HALVES = ((("x",), ("when", "s", "b", "yes")), (("y",), ("when", "s", "b", "no")),
          (("z",), ("choose", "b", ("y", "x"))))
ADDS = Program([("adds", (("step", FOUR),), ("m",), (
    (("n",), ("held", FOUR, 0, "m", "step")), (("m",), ("op", "plus", ("n", "step")))))])
PLUS = ("put", 2, ("op", "plus", (FOUR, FOUR)), (1, 0))
ROWS = (("get", 0, "step"), ("load", 1, "n"), PLUS, ("tell", "m", 2), ("store", "n", 2))
TWO = ("two", (("a", YN), ("b", YN)), ("p", "q"), ((("p",), ("op", "not", ("a",))), (("q",), ("op", "not", ("b",)))))
LATE = ("late", (("a", YN),), ("h", "m"), ((("h",), ("held", YN, "no", "a", "a")), (("m",), ("op", "and", ("a", "h")))))
BOTH = Program((TWO, LATE))


class TestLaterExamples(Case):
    """Stages 4 to 7."""

    def test_what_is_listed_is_defined_where_it_is_listed(self):
        for file, listed in LISTED.items():
            module = importlib.import_module("tickworks." + file)
            for name, many in listed.items():
                found = getattr(module, name)
                self.assertEqual(found.__module__, "tickworks." + file)
                self.assertEqual(len(inspect.signature(found).parameters), many)

    def test_clocks(self):
        split = Program([("split", (("s", FOUR), ("b", YES_NO)), ("x", "z"), HALVES)])
        self.exact([clocks(split, "split")["y"], output_clocks(split, "split"),
                    judge_clocks(split, {"split": clocks(split, "split")})],
                   [(("b", "no"),), {"x": (("b", "yes"),), "z": ()}, None])
        wrong = dict(clocks(split, "split"), x=(("b", "no"),))
        self.exact([judge_clocks(split, {"split": wrong}), judge_clocks(split, {}),
                    is_open((("b", "yes"),), {"b": ("value", "yes")})], [("row", "split", "x"), ("form",), True])
        uses = ("uses", (("t", FOUR), ("c", YES_NO)), ("w",), ((("u", "w"), ("call", "split", ("t", "c"), None)),))
        both = Program([*split.nodes(), uses])
        self.exact([clocks(both, "uses")["u"], written_clocks(both)["u.y"], clocks(both, "uses")["w"]],
                   [(("c", "yes"),), (("c", "no"),), ()])
        ring = Program([("ring", (("i", YES_NO),), ("n",), ((("n",), ("held", YES_NO, "no", "n", "n")),))])
        self.raised(Ring, {"streams": ("n",)}, clocks, ring, "ring")

    def test_orders(self):
        up = Program([("main", (("s", C3),), ("m",), (
            (("n",), ("held", C3, 0, "m", "s")), (("m",), ("op", "plus", ("n", "s")))))])
        self.exact(order_of(up), ("order", (
            ("s", "there"), ("s", "told"), ("n", "there"), ("n", "told"), ("m", "there"), ("m", "told"))))
        self.exact(judge_order(up, order_of(up)[1]), None)
        self.exact([asks(up, ("m", "told")), reach(up, ("n", "told")), deepest(up), is_swift(up)],
                   [[("s", "told"), ("n", "told"), ("m", "there")], [("s", "there"), ("n", "there")], 4, True])
        loop = Program([("main", (("s", C3),), ("b",), (
            (("a",), ("op", "plus", ("s", "b"))), (("b",), ("op", "plus", ("a", "s")))))])
        self.exact([order_of(loop), why_not(loop)],
                   [("ring", (("a", "told"), ("b", "told"))), ("order", (("a", "told"), ("b", "told")))])

    def test_rows_and_machine(self):
        self.exact([run_rows(ADDS, ROWS, (3,), (2,)), run_ticks(ADDS, ROWS, [(1,), (3,)])],
                   [("good", (1,), (1,)), [("good", (1,), (1,)), ("good", (0,), (0,))]])
        self.exact([run_rows(ADDS, ROWS[1:], (3,), (2,)), form_fault(ADDS, ROWS), form_fault(ADDS, (("get", 0, "n"),)),
                    cells_in(ROWS)], [("fault", (1,)), None, (0,), (0, 1, 2)])

    def test_facts(self):
        self.exact([judge_rows(ADDS, ROWS), judge_rows(ADDS, ROWS[:4]), judge_rows(ADDS, ROWS[:3] + ROWS[4:]),
                    judge_rows(ADDS, ROWS + ROWS[3:4])], [None, ("kept", "n"), ("told", "m"), ("row", (5,))])
        self.exact(facts_behind(ADDS, ROWS), [(0, ("step",)), (1, ("n",)), (2, ("m",))])

    def test_compiler(self):
        self.exact([bared(ADDS, ROWS[:2] + (("copy", 7, 0),) + ROWS[2:]) == ROWS, cells_in(shared(ADDS, ROWS)),
                    merged(ADDS, ROWS) == ROWS], [True, (0, 1), True])
        head = ((("y",), ("when", "c", "c", "yes")), (("x",), ("when", "e", "c", "no")),
                (("z",), ("choose", "c", ("x", "y"))),
                (("f",), ("when", "c", "z", "no")))
        tail = ((("d",), ("when", "f", "f", "yes")), (("p",), ("when", "d", "d", "no")),
                (("q",), ("when", "d", "d", "yes")),
                (("w",), ("choose", "d", ("p", "q"))))
        never = Program([("never", (("c", YN), ("e", YN)), ("z", "f", "w"), head + tail)])
        self.exact([judge_rows(never, compiled(never)), run_rows(never, compiled(never), (), ("no", "no"))],
                   [None, ("good", ("no", "no", None), ())])

    def test_needs(self):
        self.exact([stream_asks(BOTH, "two"), stream_asks(BOTH, "late"), needs(BOTH, "late", "h"),
                    needs(BOTH, "late", "m")],
                   [{"p": ("a",), "q": ("b",)}, {"h": (), "m": ("a", "h")}, (), ("a",)])

    def test_partings(self):
        self.exact([judge_parting(BOTH, "two", (("p", "q"),)), judge_parting(BOTH, "two", (("p",), ())),
                    judge_parting(BOTH, "two", (("p",),)), whole_parting(BOTH, "late")],
                   [None, ("form",), ("missing", "q"), (("h", "m"),)])
        self.exact([asked_inputs(BOTH, "two", (("p", "q"),)), calling_order(BOTH, "late", (("m",), ("h",))),
                    len(fewest(BOTH, "two")), len(fewest(BOTH, "late")), by_outputs(BOTH, "late")],
                   [[["a", "b"]], ("order", (1, 0)), 2, 2, (("h",), ("m",))])
        self.exact(played(BOTH, "late", (("m",), ("h",)), ("yes",), [("call", 1), ("give", "a", "yes"), ("call", 0),
                                                                     ("close",)]),
                   [[("h", "yes")], None, [("m", "yes")], ("yes",)])
