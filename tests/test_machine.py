"""The machine: one tick by rows, and ticks one behind the other: [6.2]."""

import random

from cases import Case
from drawn import drawn_ticks, swift_programs
from samples import BOTH, FOUR, HALVES, LOW, MAIN, SUM, THREE, TWO, YES_NO
from test_rounds import BAD_INPUTS, BAD_STATES, INPUTS, MIXED, STATE
from tickworks.compiler import compiled
from tickworks.errors import BadInputs, BadState
from tickworks.machine import run_rows, run_ticks
from tickworks.nodes import Program
from tickworks.nodetexts import read_program
from tickworks.rounds import first_state
from tickworks.runs import run, tick

# main's inputs are s of count(2) and t of truths, its outputs x and q, its helds x.h and z.h, both 1 at first.
MADE = Program([LOW, MAIN])
# Inputs and an output of several types, a held of each of them.
KINDS = read_program("""node kinds
in n count(4)
in b lot(no,yes)
out o p
o = held lot(no,yes) yes b b
p = held count(4) 3 n n
""")
GETS = (("get", 0, "n"), ("get", 1, "b"))


class TestRows(Case):
    """Each kind of row."""

    def runs(self, rows, want, state=("no", 1), inputs=(2, "yes")):
        """Checks what rows tell of KINDS."""
        self.exact(run_rows(KINDS, rows, state, inputs), want)

    def test_no_rows(self):
        self.runs((), ("good", (None, None), ("no", 1)))

    def test_get_const_load_copy(self):
        self.runs(GETS + (("tell", "p", 0), ("tell", "o", 1)), ("good", ("yes", 2), ("no", 1)))
        self.runs((("const", 5, FOUR, 3), ("tell", "p", 5)), ("good", (None, 3), ("no", 1)))
        self.runs((("load", 5, "p"), ("load", 6, "o"), ("tell", "p", 5), ("tell", "o", 6)),
                  ("good", ("no", 1), ("no", 1)))
        self.runs((("get", 0, "n"), ("copy", 9, 0), ("tell", "p", 9)), ("good", (None, 2), ("no", 1)))
        self.runs((("get", 0, "n"), ("copy", 0, 0), ("tell", "p", 0)), ("good", (None, 2), ("no", 1)))

    def test_cells_are_written_again(self):
        self.runs((("get", 0, "n"), ("const", 0, FOUR, 0), ("tell", "p", 0)), ("good", (None, 0), ("no", 1)))
        self.runs((("get", 0, "n"), ("copy", 1, 0), ("const", 0, FOUR, 0), ("tell", "p", 1)),
                  ("good", (None, 2), ("no", 1)))
        self.runs((("get", 0, "n"), ("get", 0, "b"), ("tell", "o", 0)), ("good", ("yes", None), ("no", 1)))

    def test_puts(self):
        for word, kinds, values, output, want in [
            ("plus", (FOUR, FOUR), (3, 2), "p", 1), ("plus", (THREE, THREE), (2, 2), "p", 1),
            ("not", (YES_NO,), ("no",), "o", "yes"),
            ("and", (YES_NO, YES_NO), ("yes", "no"), "o", "no"), ("or", (YES_NO, YES_NO), ("yes", "no"), "o", "yes"),
            ("same", (BOTH, BOTH), (("red", 1), ("red", 1)), "o", "yes"), ("same", (FOUR, FOUR), (1, 3), "o", "no"),
            ("less", (BOTH, BOTH), (("red", 1), ("blue", 0)), "o", "yes"), ("less", (FOUR, FOUR), (3, 3), "o", "no"),
            ("second", (BOTH,), (("red", 1),), "p", 1),
        ]:
            rows = tuple(("const", place + 10, kind, value) for place, (kind, value) in enumerate(zip(kinds, values)))
            cells = tuple(range(10, 10 + len(kinds)))
            rows += (("put", 0, ("op", word, kinds), cells), ("tell", output, 0))
            self.runs(rows, ("good", (want, None) if output == "o" else (None, want), ("no", 1)))
        rows = GETS + (("put", 2, ("op", "pair", (FOUR, YES_NO)), (0, 1)),)
        for word, kind, output in [("first", FOUR, "p"), ("second", YES_NO, "o")]:
            put = ("put", 2, ("op", word, (("pair", FOUR, YES_NO),)), (2,))
            self.runs(rows + (put, ("tell", output, 2)), ("good", ("yes", None) if output == "o" else (None, 2),
                                                          ("no", 1)))
        results = (0, 1, 2, 3, 3, 2, 1, 0)
        table = ("put", 0, ("table", FOUR, results, (FOUR, YES_NO)), (0, 1))
        for n in range(4):
            for b in ("no", "yes"):
                want = results[2 * n + ("no", "yes").index(b)]
                self.runs(GETS + (table, ("tell", "p", 0)), ("good", (None, want), ("no", 1)), inputs=(n, b))

    def test_ifs(self):
        branches = (("no", (("const", 2, FOUR, 0),)), ("yes", (("const", 2, FOUR, 3), ("copy", 3, 2))))
        rows = GETS + (("if", 1, branches), ("tell", "p", 2))
        self.runs(rows, ("good", (None, 3), ("no", 1)))
        self.runs(rows, ("good", (None, 0), ("no", 1)), inputs=(2, "no"))
        self.runs(GETS + (("if", 1, ()),), ("good", (None, None), ("no", 1)))
        self.runs(GETS + (("if", 1, (("no", (("tell", "p", 7),)),)),), ("good", (None, None), ("no", 1)))
        self.runs(GETS + (("if", 0, (("two", (("tell", "p", 7),)),)),), ("good", (None, None), ("no", 1)))
        inner = ("if", 1, (("maybe", (("tell", "o", 9),)), ("yes", (("tell", "o", 1),))))
        self.runs(GETS + (("if", 1, (("yes", (inner, ("tell", "p", 0))),)),), ("good", ("yes", 2), ("no", 1)))

    def test_an_if_on_a_pair_or_a_number(self):
        rows = GETS + (("put", 2, ("op", "pair", (FOUR, YES_NO)), (0, 1)), ("if", 2, (("yes", (("tell", "p", 9),)),)),
                       ("if", 0, (("no", (("tell", "p", 9),)),)))
        self.runs(rows, ("good", (None, None), ("no", 1)))

    def test_memories(self):
        self.runs(GETS + (("store", "p", 0),), ("good", (None, None), ("no", 2)))
        self.runs(GETS + (("store", "p", 0), ("store", "o", 1)), ("good", (None, None), ("yes", 2)))
        self.runs((("renew", ("o",)),), ("good", (None, None), ("yes", 1)))
        self.runs((("renew", ("p", "o")),), ("good", (None, None), ("yes", 3)))
        self.runs((("renew", ("p", "p")),), ("good", (None, None), ("no", 3)))

    def test_memories_that_move_twice(self):
        zero = ("const", 5, FOUR, 0)
        self.runs(GETS + (zero, ("store", "p", 0), ("store", "p", 5)), ("good", (None, None), ("no", 0)))
        self.runs(GETS + (zero, ("store", "p", 5), ("store", "p", 0)), ("good", (None, None), ("no", 2)))
        self.runs(GETS + (("store", "p", 0), ("renew", ("p",))), ("good", (None, None), ("no", 3)))
        self.runs(GETS + (("renew", ("p",)), ("store", "p", 0)), ("good", (None, None), ("no", 2)))

    def test_loads_behind_stores(self):
        self.runs(GETS + (("store", "p", 0), ("load", 0, "p"), ("tell", "p", 0)), ("good", (None, 2), ("no", 2)))
        self.runs(GETS + (("load", 4, "p"), ("store", "p", 0), ("tell", "p", 4)), ("good", (None, 1), ("no", 2)))
        self.runs((("renew", ("p",)), ("load", 0, "p"), ("tell", "p", 0)), ("good", (None, 3), ("no", 3)))

    def test_values_of_other_types_that_are_values_all_the_same(self):
        self.runs((("const", 0, TWO, 1), ("tell", "p", 0), ("store", "p", 0)), ("good", (None, 1), ("no", 1)))
        lot = ("lot", ("yes", "maybe"))
        self.runs((("const", 0, lot, "yes"), ("tell", "o", 0)), ("good", ("yes", None), ("no", 1)))


class TestFaults(Case):
    """Rows that cannot be gone through."""

    def fault(self, *rows):
        """Checks the fault at the last of these rows, behind others and in ifs within ifs."""
        for ahead in [(), (("const", 90, TWO, 0),)]:
            made = ahead + rows
            last = len(made) - 1
            self.exact(run_rows(KINDS, made, ("no", 1), (2, "yes")), ("fault", (last,)))
            self.exact(run_rows(KINDS, made + (("tell", "p", 80),), ("no", 1), (2, "yes")), ("fault", (last,)))
            get, other = ("get", 91, "b"), ("tell", "p", 80)
            inner = (get, ("if", 91, (("no", (other,)), ("maybe", (other,)), ("yes", made + (other,)))), other)
            self.exact(run_rows(KINDS, inner, ("no", 1), (2, "yes")), ("fault", (1, 2, last)))
            deeper = (get, get, ("if", 91, (("yes", (get, *inner)), ("no", ()))))
            self.exact(run_rows(KINDS, deeper, ("no", 1), (2, "yes")), ("fault", (2, 0, 2, 2, last)))

    def test_empty_cells(self):
        plus = ("op", "plus", (FOUR, FOUR))
        for row in [("copy", 1, 2), ("copy", 2, 2), ("if", 3, ()), ("if", 3, (("yes", ()),)), ("tell", "p", 4),
                    ("store", "p", 5),
                    ("put", 0, ("op", "not", (YES_NO,)), (7,))]:
            self.fault(row)
            self.fault(("get", 50, "n"), row)
        for cells in [(0, 7), (7, 0), (7, 7)]:
            self.fault(("get", 0, "n"), ("put", 1, plus, cells))
        self.fault(("get", 0, "b"), ("if", 0, (("no", (("const", 1, FOUR, 2),)),)), ("tell", "p", 1))

    def test_values_of_other_types(self):
        for value, kind in [(3, FOUR), ("yes", YES_NO), ("red", ("lot", ("red", "blue"))),
                            ((0, 1), ("pair", TWO, TWO))]:
            const = ("const", 0, kind, value)
            for word, kinds in [("plus", (THREE, THREE)), ("same", (BOTH, BOTH)), ("first", (BOTH,))]:
                self.fault(const, ("put", 1, ("op", word, kinds), (0,) * len(kinds)))
            if kind != FOUR:
                self.fault(const, ("tell", "p", 0))
                self.fault(const, ("store", "p", 0))
            if kind != YES_NO:
                self.fault(const, ("tell", "o", 0))
                self.fault(const, ("store", "o", 0))
                self.fault(const, ("put", 1, ("table", TWO, (0, 1), (YES_NO,)), (0,)))
        self.fault(("get", 0, "n"), ("get", 1, "b"), ("put", 2, ("op", "plus", (FOUR, FOUR)), (0, 1)))
        self.fault(("get", 0, "n"), ("get", 1, "b"), ("put", 2, ("table", TWO, (0, 1) * 4, (FOUR, YES_NO)), (1, 0)))
        self.fault(("const", 0, ("count", 5), 4), ("tell", "p", 0))
        self.fault(("const", 0, ("count", 5), 4), ("store", "p", 0))

    def test_outputs_that_are_told_twice(self):
        tells = (("get", 0, "n"), ("tell", "p", 0))
        self.fault(*tells, ("tell", "p", 0))
        self.fault(*tells, ("const", 0, FOUR, 1), ("tell", "p", 0))
        self.fault(*tells, ("get", 1, "b"), ("if", 1, (("yes", ()),)), ("tell", "p", 0))
        rows = (("get", 1, "b"), ("if", 1, (("yes", tells),)), ("tell", "p", 0))
        self.exact(run_rows(KINDS, rows, ("no", 1), (2, "yes")), ("fault", (2,)))
        self.exact(run_rows(KINDS, rows, ("no", 1), (2, "no")), ("fault", (2,)))
        rows = (("get", 1, "b"), ("get", 0, "n"), ("if", 1, (("yes", tells),)), ("tell", "p", 0))
        self.exact(run_rows(KINDS, rows, ("no", 1), (2, "yes")), ("fault", (3,)))
        self.exact(run_rows(KINDS, rows, ("no", 1), (2, "no")), ("good", (None, 2), ("no", 1)))

    def test_a_fault_leaves_no_trace(self):
        rows = (("get", 0, "n"), ("store", "p", 0), ("tell", "p", 9))
        self.exact(run_rows(KINDS, rows, ("no", 1), (2, "yes")), ("fault", (2,)))
        self.exact(run_rows(KINDS, rows[:2], ("no", 1), (2, "yes")), ("good", (None, None), ("no", 2)))


class TestWrongOnes(Case):
    """States and inputs that are none."""

    def test_bad_states_and_inputs(self):
        self.exact(run_rows(MIXED, (), STATE, INPUTS), ("good", (None,), STATE))
        for rows in [(), (("tell", "p", 0),)]:
            for state in BAD_STATES:
                self.raised(BadState, {}, run_rows, MIXED, rows, state, INPUTS)
                self.raised(BadState, {}, run_rows, MIXED, rows, state, None)
            for inputs in BAD_INPUTS:
                self.raised(BadInputs, {"number": 0}, run_rows, MIXED, rows, STATE, inputs)

    def test_bad_inputs_of_ticks(self):
        for rows in [(), (("tell", "p", 0),)]:
            for inputs in BAD_INPUTS:
                for ahead in range(3):
                    told = [INPUTS] * ahead + [inputs, INPUTS, [{}]]
                    self.raised(BadInputs, {"number": ahead}, run_ticks, MIXED, rows, told)
                    self.raised(BadInputs, {"number": ahead}, run_ticks, MIXED, rows, tuple(told))


class TestTicks(Case):
    """run_ticks"""

    ROWS = (("get", 0, "step"), ("load", 1, "n"), ("put", 2, ("op", "plus", (FOUR, FOUR)), (1, 0)), ("tell", "m", 2),
            ("store", "n", 2))

    def test_ticks(self):
        made = Program([SUM])
        want = [("good", (1,), (1,)), ("good", (2,), (2,)), ("good", (1,), (1,))]
        self.exact(run_ticks(made, self.ROWS, [(1,), (1,), (3,)]), want)
        self.exact(run_ticks(made, self.ROWS, ((1,), (1,), (3,))), want)
        self.exact(run_ticks(made, self.ROWS, []), [])
        self.exact(run_ticks(made, (), [(1,), (2,)]), [("good", (None,), (0,))] * 2)
        self.fresh(run_ticks, made, self.ROWS, [(1,), (1,)])
        self.untouched(run_ticks, made, self.ROWS, [(1,), (1,)])

    def test_up_to_the_first_fault(self):
        rows = (("get", 0, "b"), ("get", 1, "n"), ("store", "p", 1), ("if", 0, (("yes", (("tell", "p", 9),)),)))
        inputs = [(1, "no"), (2, "no"), (3, "yes"), (0, "no"), (0, "yes")]
        self.exact(run_ticks(KINDS, rows, inputs), [
            ("good", (None, None), ("yes", 1)), ("good", (None, None), ("yes", 2)), ("fault", (3, 0, 0))])
        self.exact(run_ticks(KINDS, rows, inputs[3:]), [("good", (None, None), ("yes", 0)), ("fault", (3, 0, 0))])
        self.exact(run_ticks(KINDS, rows, inputs[4:] * 2), [("fault", (3, 0, 0))])

    def test_an_absent_output_is_not_told(self):
        made = Program([HALVES])
        rows = (("get", 0, "s"), ("get", 1, "b"), ("if", 1, (("yes", (("tell", "x", 0),)),)), ("tell", "z", 0))
        for inputs in [(3, "yes"), (3, "no")]:
            self.exact(run_rows(made, rows, (), inputs), tick(made, (), inputs))

    def test_drawn_programs(self):
        chance = random.Random(42)
        for made in swift_programs(42, 60):
            rows = compiled(made)
            told = [inputs for _, inputs in drawn_ticks(made, chance, 5)]
            self.exact(run_ticks(made, rows, told), run(made, told))
            for state, inputs in drawn_ticks(made, chance, 3):
                self.exact(run_rows(made, rows, state, inputs), tick(made, state, inputs))

    def test_both_helds_of_a_node_that_is_called_twice(self):
        rows = (("get", 0, "s"), ("load", 1, "x.h"), ("load", 2, "z.h"), ("store", "x.h", 2), ("load", 3, "x.h"),
                ("renew", ("z.h",)), ("tell", "q", 3))
        self.exact(first_state(MADE), (1, 1))
        self.exact(run_rows(MADE, rows, (1, 0), (0, "no")), ("good", (None, 0), (0, 1)))
