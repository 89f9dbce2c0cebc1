"""Ticks and runs: [3.4] and [3.5]."""

from cases import Case
from samples import (
    CROSSED, FOUR, HALVES, KEEPS, LOOP, NESTED, OPS, PART, PROGRAMS, RARELY, RING, SOMETIMES, SUM,
    TURNS, TWICE, TWO, WORST, YES_NO,
)
from test_rounds import some_ticks
from tickworks.errors import BadInputs, BadState
from tickworks.nodes import Program
from tickworks.rounds import filling, first_state
from tickworks.runs import present_in, run, run_from, state_after, tick
from tickworks.written import helds_of, written_out


class TestTicks(Case):
    """tick and present_in"""

    def test_good_ticks(self):
        for nodes, state, inputs, want in [
            ([SUM], (3,), (2,), ("good", (1,), (1,))), ([SUM, TWICE], (1,), (1,), ("good", (2,), (2,))),
            ([HALVES], (), (3, "yes"), ("good", (3, 3), ())), ([HALVES], (), (3, "no"), ("good", (None, 3), ())),
            ([SOMETIMES], (2,), ("yes", 1), ("good", (3, 2), (3,))),
            ([SOMETIMES], (2,), ("no", 1), ("good", (None, None), (2,))),
            ([OPS], (), (1, 2, "no"), ("good", (1, "no"), ())), ([TURNS], (3,), ("good", 2), ("good", (2, 3), (2,))),
            (CROSSED, (1, 3, 2), (1, "go"), ("good", (1, 2), (2, 1, 3))),
            (CROSSED, (2, 1, 3), (2, "inner"), ("good", (2, 3), (1, 2, 1))),
            (CROSSED, (1, 2, 1), (3, "outer"), ("good", (1, 1), (1, 3, 2))),
            (NESTED, (2, 0, 1, 2), (1, "red"), ("good", (2, 1), (3, 2, 0, 3))),
            (NESTED, (2, 0, 1, 2), (1, "blue"), ("good", (2, 1), (1, 3, 0, 3))),
        ]:
            with self.subTest(node=nodes[-1][0], state=state, inputs=inputs):
                self.exact(tick(Program(nodes), state, inputs), want)

    def test_bad_ticks(self):
        for nodes, state, inputs, want in [
            ([RING], (0,), (1,), ("stuck", ("n", "m", "one"))), ([LOOP], (), (1,), ("stuck", ("a", "b"))),
            ([PART], (), (3, "yes"), ("clash", ("z",))), ([PART], (), (3, "no"), ("clash", ("z",))),
            ([WORST], (0,), (1, "no"), ("clash", ("z", "v"))), ([WORST], (3,), (0, "yes"), ("clash", ("z", "v"))),
            ([TURNS], (1,), ("crash", 0), ("clash", ("o",))), ([TURNS], (1,), ("stop", 0), ("stuck", ("o", "k"))),
        ]:
            with self.subTest(node=nodes[-1][0], state=state, inputs=inputs):
                self.exact(tick(Program(nodes), state, inputs), want)
                self.exact(present_in(Program(nodes), state, inputs), None)

    def test_one_stream_alone_is_bad(self):
        for right, want in [(("held", TWO, 0, "q", "q"), ("stuck", ("q",))),
                            (("op", "plus", ("q", "i")), ("stuck", ("q",))),
                            (("op", "plus", ("w", "i")), ("clash", ("q",)))]:
            made = Program([("n", (("i", TWO), ("b", YES_NO)), ("o",), (
                (("o",), ("op", "plus", ("i", "i"))), (("w",), ("when", "i", "b", "yes")), (("q",), right)))])
            state = first_state(made)
            self.exact(tick(made, state, (1, "no")), want)
            self.exact(present_in(made, state, (1, "no")), None)
            self.exact(state_after(made, state, [(1, "no")]), None)

    def test_present_streams(self):
        for nodes, state, inputs, want in [
            ([SUM], (3,), (2,), ("step", "n", "m")), ([SUM, TWICE], (1,), (1,), ("s", "p.step", "p.n", "p.m", "p")),
            ([HALVES], (), (3, "yes"), ("s", "b", "x", "z")), ([HALVES], (), (3, "no"), ("s", "b", "y", "z")),
            ([SOMETIMES], (2,), ("yes", 1), ("b", "s", "w", "n", "t")), ([SOMETIMES], (2,), ("no", 1), ("b", "s")),
            (KEEPS, (1,), (2, "no"), ("x", "y", "h.f", "h.b")),
            (RARELY, (1,), (2, "no"), ("x", "y")), ([TURNS], (1,), ("good", 2), ("r", "s", "o", "g", "w", "n")),
        ]:
            self.exact(present_in(Program(nodes), state, inputs), want)

    def test_ticks_are_told_by_the_filling(self):
        for nodes in PROGRAMS.values():
            made = Program(nodes)
            order = [stream for stream, _ in written_out(made)]
            for state, inputs in some_ticks(made):
                standings = filling(made, state, inputs)
                clashes = tuple(stream for stream in order if standings[stream] == ("clash",))
                stuck = tuple(stream for stream in order if standings[stream] in (("unknown",), ("there",)))
                told = tick(made, state, inputs)
                if clashes:
                    self.exact(told, ("clash", clashes))
                elif stuck:
                    self.exact(told, ("stuck", stuck))
                else:
                    outputs = [standings[output] for output in made.main()[2]]
                    want = tuple(None if one == ("absent",) else one[1] for one in outputs)
                    self.exact(told, ("good", want, self.behind(made, state, standings)))

    def behind(self, made, state, standings):
        """The state behind a good tick, by the words of [3.4]."""
        rights = dict(written_out(made))
        found = []
        for held, memory in zip(helds_of(made), state):
            _, _, own, stream, like, agains = rights[held]
            if standings[like][0] == "value":
                memory = standings[stream][1]
            for cond, word in agains:
                if standings[cond] == ("value", word):
                    memory = own
            found.append(memory)
        return tuple(found)


def below(held_like, again):
    """A program whose held lies below an again, and is there as the word held_like tells."""
    inner = ("inner", (("f", FOUR), ("b", YES_NO)), ("h",), (
        (("w",), ("when", "f", "b", held_like)), (("h",), ("held", FOUR, 3, "w", "w"))))
    return Program([inner, ("main", (("f", FOUR), ("b", YES_NO)), ("h",), (
        (("h",), ("call", "inner", ("f", "b"), ("b", again))),))])


class TestAgains(Case):
    """The state behind a tick, where a call is begun again."""

    def test_on_a_held_that_is_there(self):
        made = below("yes", "yes")
        self.exact(tick(made, (1,), (2, "yes")), ("good", (1,), (3,)))
        self.exact(tick(made, (1,), (2, "no")), ("good", (None,), (1,)))

    def test_on_a_held_that_is_absent(self):
        made = below("yes", "no")
        self.exact(tick(made, (1,), (2, "yes")), ("good", (1,), (2,)))
        self.exact(tick(made, (1,), (2, "no")), ("good", (None,), (3,)))

    def test_a_cond_that_is_absent(self):
        made = Program(RARELY)
        self.exact(run(made, [(1, "yes"), (2, "no"), (2, "yes")]), [
            ("good", (1, "yes"), (1,)), ("good", (None, None), (1,)), ("good", (1, "yes"), (1,))])
        self.exact(tick(made, (3,), (2, "no")), ("good", (None, None), (3,)))
        self.exact(tick(made, (3,), (2, "yes")), ("good", (3, "yes"), (1,)))

    def test_agains_within_agains(self):
        made = Program(CROSSED)
        self.exact(run(made, [(1, "go"), (2, "inner"), (3, "outer"), (3, "go")]), [
            ("good", (1, 2), (2, 1, 3)), ("good", (2, 3), (1, 2, 1)), ("good", (1, 1), (1, 3, 2)),
            ("good", (1, 2), (0, 1, 3))])

    def test_in_the_tick_itself_all_is_as_the_state_tells(self):
        made = Program(KEEPS)
        self.exact(run(made, [(1, "yes"), (2, "no"), (2, "yes")]), [
            ("good", (3,), (1,)), ("good", (None,), (3,)), ("good", (3,), (2,))])
        self.exact(filling(below("yes", "yes"), (1,), (2, "yes"))["h"], ("value", 1))

    def test_one_again_of_two(self):
        inner = ("inner", (("f", TWO),), ("h",), ((("h",), ("held", TWO, 0, "f", "f")),))
        outer = ("outer", (("f", TWO), ("b", YES_NO)), ("h",), (
            (("h",), ("call", "inner", ("f",), ("b", "yes"))),))
        main = ("main", (("f", TWO), ("b", YES_NO), ("c", YES_NO)), ("h",), (
            (("h",), ("call", "outer", ("f", "b"), ("c", "yes"))),))
        made = Program([inner, outer, main])
        for b in ["no", "yes"]:
            for c in ["no", "yes"]:
                want = 0 if "yes" in (b, c) else 1
                self.exact(tick(made, (0,), (1, b, c)), ("good", (0,), (want,)))
                self.exact(tick(made, (1,), (1, b, c)), ("good", (1,), (want,)))


class TestRuns(Case):
    """run, run_from and state_after"""

    def test_runs(self):
        made = Program([SUM])
        told = [("good", (1,), (1,)), ("good", (2,), (2,)), ("good", (1,), (1,))]
        for inputs in [[(1,), (1,), (3,)], ((1,), (1,), (3,))]:
            self.exact(run(made, inputs), told)
            self.exact(run_from(made, (0,), inputs), told)
            self.exact(state_after(made, (0,), inputs), (1,))
        self.exact(run_from(made, (3,), [(1,), (1,)]), [("good", (0,), (0,)), ("good", (1,), (1,))])
        self.exact(state_after(made, (3,), [(1,), (1,)]), (1,))

    def test_no_ticks(self):
        for nodes in PROGRAMS.values():
            made = Program(nodes)
            state = first_state(made)
            self.exact(run(made, []), [])
            self.exact(run_from(made, state, ()), [])
            self.exact(state_after(made, state, []), state)
        self.exact(state_after(Program([SUM]), (3,), []), (3,))

    def test_runs_that_end_with_a_bad_tick(self):
        made = Program([TURNS])
        good, crash, stop = ("good", 2), ("crash", 1), ("stop", 3)
        for inputs, want in [
            ([good, crash, good], [("good", (2, 1), (2,)), ("clash", ("o",))]),
            ([good, stop], [("good", (2, 1), (2,)), ("stuck", ("o", "k"))]),
            ([crash, stop, good], [("clash", ("o",))]), ([stop], [("stuck", ("o", "k"))]),
            ([good, good], [("good", (2, 1), (2,)), ("good", (2, 2), (2,))]),
        ]:
            self.exact(run(made, inputs), want)
            self.exact(run_from(made, (1,), inputs), want)
            want_state = want[-1][2] if want[-1][0] == "good" else None
            self.exact(state_after(made, (1,), inputs), want_state)
        self.exact(state_after(made, (1,), [good, stop, good]), None)

    def test_bad_inputs_ahead_of_all_ticks(self):
        made = Program([TURNS])
        good, crash = ("good", 2), ("crash", 1)
        for rows, number in [([crash, good, ("good", 4)], 2), ([crash, ("stop",), None], 1),
                             ([("good", True), crash], 0), ([good, crash, good, ["good", 2]], 3)]:
            self.raised(BadInputs, {"number": number}, run, made, rows)
            self.raised(BadInputs, {"number": number}, run_from, made, (1,), rows)
            self.raised(BadInputs, {"number": number}, state_after, made, (1,), rows)
            self.raised(BadState, {}, run_from, made, (4,), rows)
            self.raised(BadState, {}, state_after, made, [1], rows)

    def test_each_tick_is_in_the_state_behind_the_one_ahead(self):
        for nodes in PROGRAMS.values():
            made = Program(nodes)
            rows = [inputs for _, inputs in some_ticks(made, 9)]
            for state, _ in some_ticks(made, 5):
                want, now = [], state
                for row in rows:
                    want.append(tick(made, now, row))
                    now = want[-1][2] if want[-1][0] == "good" else None
                    if now is None:
                        break
                self.exact(run_from(made, state, rows), want)
                self.exact(state_after(made, state, rows), now)
            self.exact(run(made, rows), run_from(made, first_state(made), rows))

    def test_new_lists(self):
        for nodes in [[SUM], [RING], [TURNS], NESTED]:
            made = Program(nodes)
            rows = [inputs for _, inputs in some_ticks(made, 4)]
            self.fresh(run, made, rows)
            self.fresh(run_from, made, first_state(made), rows)
            self.fresh(run, made, [])

    def test_arguments_stay(self):
        made = Program([SUM])
        for call, *state in [(run,), (run_from, (1,)), (state_after, (1,))]:
            self.untouched(call, made, *state, [(1,), (2,), (3,)])

    def test_a_program_stays_as_it_is(self):
        made = Program(CROSSED)
        rows = written_out(made)
        run(made, [(1, "go"), (2, "outer")])
        self.exact(written_out(made), rows)
        self.exact(first_state(made), (1, 3, 2))
        self.assertEqual(made, Program(CROSSED))
