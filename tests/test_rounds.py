"""States, inputs and fillings: [3.3]."""

import itertools

from cases import Case, NOTHINGS
from samples import (
    CROSSED, HALVES, LOOP, NESTED, PART, PROGRAMS, RING, SOMETIMES, SUM, TURNS, TWICE, TWO, WORST, YES_NO,
)
from tickworks.errors import BadInputs, BadState, UnknownName
from tickworks.nodes import Program
from tickworks.rounds import filled_by, filling, first_state, rounds
from tickworks.runs import present_in, run, run_from, state_after, tick
from tickworks.standings import is_below, operands_of, standing_of
from tickworks.types import values_of
from tickworks.written import helds_of, written_out, written_types

U, A, T, C = ("unknown",), ("absent",), ("there",), ("clash",)


def value(told):
    """The standing of a value."""
    return ("value", told)


def states_of(made):
    """All states of a program, from its helds' types."""
    types = written_types(made)
    return itertools.product(*[values_of(types[held]) for held in helds_of(made)])


def inputs_of(made):
    """All inputs of a program."""
    return itertools.product(*[values_of(kind) for _, kind in made.main()[1]])


def some_ticks(made, most=40):
    """Some pairs of a state and inputs, spread over all of them."""
    pairs = list(itertools.product(list(states_of(made)), list(inputs_of(made))))
    return pairs[::max(1, len(pairs) // most)]


class Told:
    """What standing_of tells of a program's streams, in one state."""

    def __init__(self, made, state, inputs):
        self.rows = written_out(made)
        self.types = written_types(made)
        self.memory = dict(zip(helds_of(made), state))
        self.inputs = dict(zip([word for word, _ in made.main()[1]], inputs))

    def begun(self):
        """The filling that begins."""
        return {stream: value(self.inputs[stream]) if stream in self.inputs else U for stream, _ in self.rows}

    def standing(self, stream, standings):
        """What is told of one stream."""
        if stream in self.inputs:
            return value(self.inputs[stream])
        right = dict(self.rows)[stream]
        operands = operands_of(right)
        return standing_of(right, [self.types[other] for other in operands],
                           [standings[other] for other in operands], self.memory.get(stream))

    def all(self, standings):
        """What is told of all streams at once."""
        return {stream: self.standing(stream, standings) for stream, _ in self.rows}


class TestFillings(Case):
    """first_state, rounds, filling and filled_by"""

    def test_first_states(self):
        for nodes, state in [([SUM], (0,)), ([SUM, TWICE], (0,)), (NESTED, (1, 3, 2, 1)), (CROSSED, (1, 3, 2)),
                             ([PART], ()), (PROGRAMS["all"], (1, 1)), ([TURNS], (1,))]:
            self.exact(first_state(Program(nodes)), state)

    def test_rounds(self):
        made = Program([SUM])
        self.exact(rounds(made, (3,), (2,)), [
            {"step": value(2), "n": U, "m": U}, {"step": value(2), "n": value(3), "m": T},
            {"step": value(2), "n": value(3), "m": value(1)}])
        self.exact(rounds(Program([RING]), (0,), (1,)), [{"step": value(1), "n": U, "m": U, "one": U}])
        self.exact(rounds(Program([PART]), (), (3, "yes")), [
            {"s": value(3), "b": value("yes"), "x": U, "y": U, "z": U},
            {"s": value(3), "b": value("yes"), "x": value(3), "y": A, "z": T},
            {"s": value(3), "b": value("yes"), "x": value(3), "y": A, "z": C}])
        self.exact(rounds(Program([SOMETIMES]), (2,), ("no", 1)), [
            {"b": value("no"), "s": value(1), "w": U, "n": U, "t": U},
            {"b": value("no"), "s": value(1), "w": A, "n": U, "t": U},
            {"b": value("no"), "s": value(1), "w": A, "n": A, "t": A}])

    def test_each_round_is_told_by_the_one_ahead(self):
        for nodes in PROGRAMS.values():
            made = Program(nodes)
            for state, inputs in some_ticks(made, 12):
                told = Told(made, state, inputs)
                got = rounds(made, state, inputs)
                self.exact(got[0], told.begun())
                for ahead, later in zip(got, got[1:]):
                    self.exact(later, told.all(ahead))
                    self.assertNotEqual(later, ahead)
                self.exact(told.all(got[-1]), got[-1])
                self.exact(filling(made, state, inputs), got[-1])

    def test_the_least_filling(self):
        some = [([SUM], 30), ([RING], 16), ([HALVES], 8), ([PART], 8), ([LOOP], 3), ([SOMETIMES], 12)]
        for nodes, most in some:
            made = Program(nodes)
            types = written_types(made)
            streams = [stream for stream, right in written_out(made) if right[0] != "input"]
            choices = [[U, A, T, C] + [value(one) for one in values_of(types[stream])] for stream in streams]
            for state, inputs in some_ticks(made, most):
                told = Told(made, state, inputs)
                begun = told.begun()
                fillings = []
                for standings in itertools.product(*choices):
                    candidate = {**begun, **dict(zip(streams, standings))}
                    if all(told.standing(stream, candidate) == candidate[stream] for stream in streams):
                        fillings.append(candidate)
                least = filling(made, state, inputs)
                self.assertIn(least, fillings)
                for other in fillings:
                    self.assertTrue(all(is_below(least[stream], other[stream]) for stream in least))

    def test_filling(self):
        self.exact(filling(Program([SUM]), (3,), (2,)), {"step": value(2), "n": value(3), "m": value(1)})
        self.exact(filling(Program([RING]), (0,), (1,)), {"step": value(1), "n": U, "m": U, "one": U})
        self.exact(filling(Program([LOOP]), (), (1,)), {"s": value(1), "a": T, "b": T, "c": value(2)})
        self.exact(filling(Program([WORST]), (1,), (2, "no")), {
            "s": value(2), "b": value("no"), "x": A, "y": value(2), "r": T, "q": U, "z": C, "v": C})
        self.exact(filling(Program([TURNS]), (3,), ("stop", 2)), {
            "r": value("stop"), "s": value(2), "o": T, "g": A, "w": A, "d": A, "t": value(2), "k": T, "n": value(3)})
        self.exact(filling(Program([SUM, TWICE]), (3,), (2,)), {
            "s": value(2), "p.step": value(2), "p.n": value(3), "p.m": value(1), "p": value(1)})

    def test_filled_by_some(self):
        made = Program([SUM])
        begun = {"step": value(2), "n": U, "m": U}
        whole = {"step": value(2), "n": value(3), "m": value(1)}
        for sequence, want in [
            ([], begun), (["step"], begun), (["m"], {**begun, "m": T}), (["n"], {**begun, "n": value(3)}),
            (["m", "n"], whole), (["n", "m"], whole), (["m", "n", "m"], whole), (["n", "n"], {**begun, "n": value(3)}),
            (["m", "m", "step"], {**begun, "m": T}), (["step", "m", "step", "n", "step"], whole),
        ]:
            self.exact(filled_by(made, (3,), (2,), sequence), want)
            self.exact(filled_by(made, (3,), (2,), tuple(sequence)), want)

    def test_filled_by_again_and_again(self):
        made = Program([SUM, TWICE])
        whole = filling(made, (1,), (1,))
        for sequence in itertools.permutations(["p.step", "p.n", "p.m", "p"]):
            self.exact(filled_by(made, (1,), (1,), list(sequence)), whole)
        self.exact(filled_by(made, (1,), (1,), ["p", "p.m", "p.step"]), {
            "s": value(1), "p.step": value(1), "p.n": U, "p.m": T, "p": T})

    def test_filled_by_against_its_words(self):
        for nodes in PROGRAMS.values():
            made = Program(nodes)
            streams = list(written_types(made))
            backwards = streams[::-1]
            for state, inputs in some_ticks(made, 8):
                told = Told(made, state, inputs)
                for sequence in [backwards, backwards[::2], streams[1::2], streams[::3] + streams[::2], streams * 2]:
                    want = told.begun()
                    ahead = None
                    while want != ahead:
                        ahead = dict(want)
                        for stream in sequence:
                            want[stream] = told.standing(stream, want)
                    self.exact(filled_by(made, state, inputs, sequence), want)
                self.exact(filled_by(made, state, inputs, backwards), filling(made, state, inputs))

    def test_unknown_names(self):
        made = Program([SUM, TWICE])
        for name in [*NOTHINGS, "m", "sum", "p.", "p.m ", "two", ["p"], ("p",), {"p": 1}]:
            caught = self.raised(UnknownName, {"name": name}, filled_by, made, (0,), (1,), ["p", name, "nowhere"])
            self.apart(caught, name)
        self.raised(UnknownName, {"name": "q"}, filled_by, made, (0,), (1,), ["q", "r"])

    def test_new_lists_and_dicts(self):
        for nodes in PROGRAMS.values():
            made = Program(nodes)
            for state, inputs in some_ticks(made, 3):
                self.fresh(rounds, made, state, inputs)
                self.fresh(filling, made, state, inputs)
                self.fresh(filled_by, made, state, inputs, list(written_types(made)))

    def test_arguments_stay(self):
        made = Program([SUM])
        self.untouched(filled_by, made, (3,), (2,), ["m", "n", "m"])
        with self.assertRaises(UnknownName):
            self.untouched(filled_by, made, (3,), (2,), ["m", ["n"], {}])


MIXED = Program([("mixed", (("a", TWO), ("b", YES_NO)), ("p",), (
    (("p",), ("op", "pair", ("g", "h"))),
    (("g",), ("held", TWO, 0, "a", "a")),
    (("h",), ("held", ("pair", TWO, YES_NO), (1, "no"), "q", "a")),
    (("q",), ("op", "pair", ("a", "b"))),
))])
STATE, INPUTS = (1, (0, "yes")), (1, "no")

BAD_STATES = NOTHINGS + [
    [1, (0, "yes")], (1,), (1, (0, "yes"), 0), (2, (0, "yes")), (True, (0, "yes")), (1, (True, "yes")),
    (1, [0, "yes"]), (1, (0, "on")), (1, (0,)), ("1", (0, "yes")), (None, None), (1, None), ((1, (0, "yes")),),
    (1, (0, "yes", 0)), {0: 1, 1: (0, "yes")}, (-1, (0, "yes")), ((0, "yes"), 1), [STATE],
]
BAD_INPUTS = NOTHINGS + [
    [1, "no"], (1,), (1, "no", 0), (2, "no"), (True, "no"), (False, "no"), (1, "No"), (1, ["no"]), (1, True),
    ("no", 1), (None, "no"), (1, None), ((1, "no"),), {"a": 1, "b": "no"}, (-1, "no"), ("1", "no"), [INPUTS], "no",
]


class TestWrongOnes(Case):
    """BadState, then BadInputs, ahead of all else."""

    def test_right_ones(self):
        self.assertEqual(tick(MIXED, STATE, INPUTS)[0], "good")
        self.assertEqual(len(rounds(MIXED, STATE, INPUTS)), 3)

    def test_bad_states(self):
        calls = [(rounds, INPUTS), (filling, INPUTS), (filled_by, INPUTS, []), (tick, INPUTS),
                 (present_in, INPUTS), (run_from, [INPUTS]), (state_after, [INPUTS]), (run_from, []),
                 (state_after, []), (rounds, "x"), (filling, []), (filled_by, None, [[]]), (filled_by, INPUTS, ["x"]),
                 (tick, {}), (present_in, (1,)), (run_from, [None]), (state_after, [INPUTS, (2, "no")])]
        for state in BAD_STATES:
            for call, *rest in calls:
                with self.subTest(call=call.__name__, state=state):
                    self.raised(BadState, {}, call, MIXED, state, *rest)

    def test_bad_inputs(self):
        for inputs in BAD_INPUTS:
            for call, *rest in [(rounds,), (filling,), (filled_by, []), (filled_by, ["x"]), (filled_by, [[]]), (tick,),
                                (present_in,)]:
                with self.subTest(call=call.__name__, inputs=inputs):
                    self.raised(BadInputs, {"number": 0}, call, MIXED, STATE, inputs, *rest)
            for call, *state in [(run,), (run_from, STATE), (state_after, STATE)]:
                for ahead in range(3):
                    rows = [INPUTS] * ahead + [inputs, INPUTS, [{}]]
                    self.raised(BadInputs, {"number": ahead}, call, MIXED, *state, rows)
                    self.raised(BadInputs, {"number": ahead}, call, MIXED, *state, tuple(rows))

    def test_programs_without_helds(self):
        made = Program([PART])
        self.assertEqual(tick(made, (), (0, "no"))[0], "clash")
        for state in [[], None, (0,), ((),), "", {}]:
            self.raised(BadState, {}, tick, made, state, (0, "no"))

    def test_arguments_stay(self):
        for state in BAD_STATES:
            with self.assertRaises(BadState):
                self.untouched(filling, MIXED, state, INPUTS)
        rows = [INPUTS, [1, {"a": [2]}]]
        with self.assertRaises(BadInputs):
            self.untouched(run, MIXED, rows)
