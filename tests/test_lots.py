"""Closed lots and wishes: [9.1] to [9.3]."""

import random

from cases import Case, NOTHINGS
from drawn import drawn_program, swift_programs
from lotwords import closed_by_words, kept_by_words, rows_of, runs_of
from samples import BOTH, FOUR, HALVES, NESTED, PROGRAMS, SOMETIMES, SUM, TURNS, WORST, YES_NO
from tickworks.errors import BadValue, TooMany, UnknownName
from tickworks.lots import closed_lot, input_rows, judge_bad, judge_closed, judge_kept, wish_kept
from tickworks.nodes import Program
from tickworks.nodetexts import read_program
from tickworks.rounds import first_state
from tickworks.runs import run, tick
from tickworks.tables import table_of
from tickworks.types import values_of

ADDS = Program([SUM])
# A good tick at first; a clash where the count is 2, stuck where it is 3; by yes alone the count goes on.
LATER = read_program("""node part
in c lot(ok,bad,odd)
in b lot(no,yes)
out z
g = when b c ok
w = when c c ok
d = when g w bad
t = when b c odd
k = op and k t
z = choose c g d k
node later
in b lot(no,yes)
out n
n = held count(4) 0 u b
u = table count(4) 0 1 1 2 2 3 3 3 : n b
c = table lot(ok,bad,odd) ok ok bad odd : n
z = call part c b
""")
# Ticks on and on through all values of a pair.
WIDE = read_program("""node wide
in b lot(no,yes)
out n
n = held count(6) 0 m b
o = table count(6) 1 2 3 4 5 0 : n
m = table count(6) 0 1 1 2 2 3 3 4 4 5 5 0 : n b
""")


def four_hundred(begins):
    """A program that is at its first state again after four hundred ticks, perhaps one more at first."""
    five, pair = ("count", 5), ("pair", FOUR, FOUR)
    more = ((("f",), ("held", YES_NO, "no", "o", "b")),) if begins else ()
    return Program([("n", (("b", YES_NO),), ("o",), (
        (("p",), ("held", pair, (0, 0), "q", "b")),
        (("q",), ("table", pair, tuple(((k + 1) % 16 // 4, (k + 1) % 4) for k in range(16)), ("p",))),
        (("u",), ("held", five, 0, "v", "b")), (("v",), ("table", five, (1, 2, 3, 4, 0), ("u",))),
        (("w",), ("held", five, 0, "x", "b")),
        (("x",), ("table", five, tuple((k + (j == 4)) % 5 for k in range(5) for j in range(5)), ("w", "u"))),
        *more, (("o",), ("op", "same", ("u", "u")))))])


def any_programs(seed, count):
    """Drawn programs, swift or not."""
    chance = random.Random(seed)
    found = []
    while len(found) < count:
        made = drawn_program(chance, chance.random() < 0.3)
        if made is not None:
            nodes = made[0].nodes()
            if chance.random() < 0.6:
                nodes = bent(nodes, chance)
            try:
                found.append(Program(nodes))
            except Exception:
                continue
    return found


def bent(nodes, chance):
    """Nodes in which one operand of main is another stream."""
    name, inputs, outputs, equations = nodes[-1]
    streams = [word for word, _ in inputs] + [other for names, _ in equations for other in names]
    k = chance.randrange(len(equations))
    names, right = equations[k]
    parts = list(right)
    if parts[0] in ("when", "held", "choose"):
        at = {"when": [1, 2], "held": [3, 4], "choose": [1]}[parts[0]]
        parts[chance.choice(at)] = chance.choice(streams)
    elif parts[0] in ("op", "table"):
        args = list(parts[-1])
        args[chance.randrange(len(args))] = chance.choice(streams)
        parts[-1] = tuple(args)
    equations = (*equations[:k], (names, tuple(parts)), *equations[k + 1:])
    return [*nodes[:-1], (name, inputs, outputs, equations)]


class TestRows(Case):
    """input_rows"""

    def test_rows(self):
        self.exact(input_rows(ADDS), [(0,), (1,), (2,), (3,)])
        pair = ("pair", ("lot", ("z", "a")), ("count", 2))
        made = Program([("n", (("p", pair), ("b", YES_NO), ("c", ("count", 3))), ("o",), ((("o",), ("op", "not", ("b",))),))])
        rows = input_rows(made)
        self.assertEqual(len(rows), 24)
        self.exact(rows[:4], [(("z", 0), "no", 0), (("z", 0), "no", 1), (("z", 0), "no", 2), (("z", 0), "yes", 0)])
        self.exact(rows[-1], (("a", 1), "yes", 2))
        self.exact(rows, rows_of(made))
        self.fresh(input_rows, made)

    def test_drawn(self):
        for made in swift_programs(380, 30):
            self.exact(input_rows(made), rows_of(made))


class TestClosed(Case):
    """closed_lot, judge_closed, judge_bad"""

    def check(self, made):
        """Checks the lot or the bad run of a program."""
        want = closed_by_words(made)
        got = closed_lot(made)
        self.exact(got, want)
        if got[0] == "closed":
            lot = got[1]
            self.exact(judge_closed(made, lot), None)
            self.exact(closed_lot(made, states=len(lot)), want)
            if len(lot) > 1:
                self.raised(TooMany, {}, lambda: closed_lot(made, states=len(lot) - 1))
        else:
            self.exact(judge_bad(made, got), True)
            self.exact(run(made, list(got[1]))[-1], got[2])
        return got

    def test_samples(self):
        self.exact(closed_lot(ADDS), ("closed", ((0,), (1,), (2,), (3,))))
        for nodes in PROGRAMS.values():
            self.check(Program(nodes))
        self.exact(closed_lot(Program([WORST]))[1], ((0, "no"),))
        self.exact(closed_lot(Program([TURNS]))[2][0], "clash")
        self.exact(closed_lot(Program([HALVES])), ("closed", ((),)))

    def test_runs_to_bad_ticks(self):
        word, inputs, told = self.check(LATER)
        self.exact([word, inputs], ["run", (("yes",), ("yes",), ("no",))])
        self.assertEqual(told[0], "clash")
        for many in [1, 2]:
            self.raised(TooMany, {}, lambda: closed_lot(LATER, states=many))
        # The bad tick is met ahead of the number that is behind a tick, so three states are enough.
        self.exact(closed_lot(LATER, states=3), (word, inputs, told))

    def test_no_run_is_shorter(self):
        for made in [LATER] + any_programs(381, 60):
            got = closed_lot(made)
            if got[0] == "run" and len(got[1]) < 4 and len(rows_of(made)) < 7:
                first = next(found for found in runs_of(made, len(got[1]))
                             if found and run(made, list(found))[-1][0] != "good")
                self.exact(got[1], first)

    def test_caps(self):
        self.exact(closed_lot(WIDE), closed_lot(WIDE, states=6))
        for states in range(1, 6):
            self.raised(TooMany, {}, lambda: closed_lot(WIDE, states=states))
        many = Program([("many", (("b", YES_NO),), ("m",), (
            (("h",), ("held", ("count", 6), 0, "i", "b")), (("i",), ("table", ("count", 6), (1, 2, 3, 4, 5, 0), ("h",))),
            (("g",), ("held", ("pair", ("count", 4), ("count", 5)), (0, 0), "k", "b")),
            (("f",), ("op", "first", ("g",))), (("s",), ("op", "second", ("g",))),
            (("k",), ("op", "pair", ("f", "s"))), (("m",), ("op", "same", ("h", "i")))))])
        self.exact(len(closed_lot(many)[1]), 6)

    def test_just_four_hundred(self):
        made = four_hundred(False)
        self.exact(len(self.check(made)[1]), 400)
        self.exact(len(wish_kept(made, "o", ["yes"])[1]), 400)
        self.exact(len(table_of(made)), 400)
        more = four_hundred(True)
        self.raised(TooMany, {}, closed_lot, more)
        self.raised(TooMany, {}, wish_kept, more, "o", ["yes"])
        self.raised(TooMany, {}, table_of, more)
        self.exact(wish_kept(more, "o", ["no"]), ("broken", (("no",),)))

    def test_drawn_programs(self):
        words = {"closed": 0, "run": 0}
        for made in any_programs(382, 150) + swift_programs(383, 40):
            words[self.check(made)[0]] += 1
        self.assertGreater(min(words.values()), 20)

    def test_swift_ones_have_closed_lots(self):
        for made in swift_programs(384, 60) + swift_programs(385, 40, True):
            self.assertEqual(closed_lot(made)[0], "closed")

    def test_judged(self):
        lot = ((0,), (1,), (2,), (3,))
        for value in [lot, lot[::-1]]:
            self.exact(judge_closed(ADDS, value), None)
        self.exact(judge_closed(ADDS, lot[1:]), ("first",))
        self.exact(judge_closed(ADDS, ()), ("first",))
        self.exact(judge_closed(ADDS, lot[:3]), ("open", 0, (3,)))
        self.exact(judge_closed(ADDS, ((3,), (0,), (2,))), ("open", 0, (2,)))
        self.exact(judge_closed(ADDS, ((0,), (2,), (3,))), ("open", 0, (1,)))
        for value in [*NOTHINGS, list(lot), (*lot, (0,)), (*lot, (4,)), (*lot, (True,)), (*lot, ()), (*lot, None),
                      (*lot, [0]), ([0], *lot), (*lot, (0, 0)), (*lot, 0), lot[0], ((False,), *lot[1:]), {(0,): 1},
                      (lot,), (*lot, ("0",)), (*lot, ([0],))]:
            self.exact(self.untouched(judge_closed, ADDS, value), ("first",) if value == () else ("form",))

    def test_judged_bad_ticks(self):
        turns = Program([TURNS])
        first = first_state(turns)
        self.exact(judge_closed(turns, (first,)), ("open", 0, ("good", 0)))
        lot = tuple((k,) for k in [1, 0, 2, 3])
        self.exact(judge_closed(turns, lot), ("tick", 0, ("crash", 0)))
        self.exact(judge_closed(turns, ((0,), *lot[:1], *lot[2:])), ("tick", 0, ("crash", 0)))
        self.exact(judge_closed(LATER, ((0,), (1,), (2,), (3,))), ("tick", 2, ("no",)))
        self.exact(judge_closed(LATER, ((2,), (1,), (0,), (3,))), ("tick", 0, ("no",)))
        self.exact(judge_closed(LATER, ((0,), (1,))), ("open", 1, ("yes",)))
        # At one row the tick is looked at first, but an open one at a state ahead is told first.
        self.exact(judge_closed(LATER, ((0,), (2,))), ("open", 0, ("yes",)))
        self.exact(judge_closed(LATER, ((2,), (0,))), ("tick", 0, ("no",)))

    def test_judged_by_the_words(self):
        chance = random.Random(386)
        for made in any_programs(387, 60):
            got = closed_by_words(made)
            lot = list(got[1]) if got[0] == "closed" else [first_state(made)]
            for _ in range(6):
                value = list(lot)
                way = chance.randrange(4)
                if way == 0:
                    value.pop(chance.randrange(len(value)))
                elif way == 1:
                    value.append(chance.choice(value))
                elif way == 2:
                    chance.shuffle(value)
                else:
                    value.append(tuple(chance.choice(values_of(right[1])) for right in self.helds(made)))
                self.exact(judge_closed(made, tuple(value)), self.fault(made, value))

    def helds(self, made):
        """The right sides of the helds."""
        return [right for _, right, _ in made.written_rows() if right[0] == "held"]

    def fault(self, made, value):
        """The fault of a list of states."""
        if len(set(value)) < len(value):
            return ("form",)
        if first_state(made) not in value:
            return ("first",)
        for k, state in enumerate(value):
            for row in rows_of(made):
                told = tick(made, state, row)
                if told[0] != "good":
                    return ("tick", k, row)
                if told[2] not in value:
                    return ("open", k, row)
        return None

    def test_judge_bad(self):
        word, inputs, told = closed_lot(LATER)
        self.exact(judge_bad(LATER, (word, inputs, told)), True)
        longer = (("no",), *inputs)
        self.exact(judge_bad(LATER, (word, longer, told)), True)
        for value in [*NOTHINGS, [word, inputs, told], (word, inputs), (word, inputs, told, 1), ("runs", inputs, told),
                      (None, inputs, told), (word, list(inputs), told), (word, tuple(map(list, inputs)), told),
                      (word, inputs[:2], told), (word, (*inputs, ("no",)), told), (word, (), told),
                      (word, inputs, list(told)), (word, inputs, told[:1]), (word, inputs, ("stuck", told[1])),
                      (word, inputs, ("clash", list(told[1]))), (word, inputs, ("clash", ())), (word, inputs, None),
                      (word, (*inputs[:2], ("maybe",)), told), (word, (*inputs[:2], (True,)), told),
                      (word, (*inputs[:2], None), told), (word, (("no",),), tick(LATER, (0,), ("no",))),
                      (word, inputs[1:], told), (["run"], inputs, told), {"run": inputs}]:
            self.exact(self.untouched(judge_bad, LATER, value), False)

    def test_judge_bad_of_stuck_ticks(self):
        turns = Program([TURNS])
        for row, want in [(("stop", 1), "stuck"), (("crash", 1), "clash")]:
            told = tick(turns, (1,), row)
            self.assertEqual(told[0], want)
            self.exact(judge_bad(turns, ("run", (row,), told)), True)
            self.exact(judge_bad(turns, ("run", (("good", 2), row), told)), True)
            self.exact(judge_bad(turns, ("run", (row, row), told)), False)
            for other in [("stop", 1), ("crash", 1), ("good", 1)]:
                self.exact(judge_bad(turns, ("run", (other,), told)), other == row)


class TestWishes(Case):
    """wish_kept, judge_kept"""

    def check(self, made, output, values):
        """Checks what is told of a wish."""
        want = kept_by_words(made, output, values)
        got = wish_kept(made, output, values)
        self.exact(got, want)
        self.exact(wish_kept(made, output, tuple(values)), want)
        if got[0] == "kept":
            self.exact(judge_kept(made, output, values, got[1]), True)
            self.exact(judge_kept(made, output, values, got[1][::-1]), True)
            self.exact(judge_kept(made, output, values, list(got[1])), False)
            self.exact(judge_kept(made, output, values, got[1] + got[1][:1]), False)
            self.exact(wish_kept(made, output, values, states=len(got[1])), want)
            if len(got[1]) > 1:
                self.exact(judge_kept(made, output, values, got[1][1:]), False)
                self.raised(TooMany, {}, lambda: wish_kept(made, output, values, states=len(got[1]) - 1))
        return got

    def test_kept_and_broken(self):
        self.exact(self.check(ADDS, "m", [0, 1, 2, 3])[0], "kept")
        self.exact(self.check(ADDS, "m", [0, 1, 2]), ("broken", ((3,),)))
        self.exact(self.check(ADDS, "m", []), ("broken", ((0,),)))
        self.exact(self.check(WIDE, "n", [0, 1, 2]), ("broken", (("yes",),) * 3 + (("no",),)))
        # The wish is broken at the tick ahead of the number that is behind it.
        self.exact(wish_kept(WIDE, "n", [0, 1, 2], states=4), ("broken", (("yes",),) * 3 + (("no",),)))
        self.raised(TooMany, {}, lambda: wish_kept(WIDE, "n", [0, 1, 2], states=3))
        self.exact(judge_kept(ADDS, "m", [0, 1, 2], ((0,), (1,), (2,), (3,))), False)
        self.exact(judge_kept(ADDS, "m", [3, 1, 2, 0], ((0,), (1,), (2,), (3,))), True)

    def test_what_is_absent(self):
        some = Program([SOMETIMES])
        self.exact(self.check(some, "n", [0, 1, 2, 3])[0], "kept")
        self.exact(self.check(some, "n", [3])[0], "broken")
        halves = Program([HALVES])
        self.exact(self.check(halves, "x", []), ("broken", ((0, "yes"),)))

    def test_bad_ticks(self):
        got = self.check(LATER, "n", [0, 1, 2, 3])
        self.exact(got[:2], ("bad", (("yes",), ("yes",), ("no",))))
        self.exact(self.check(LATER, "n", [0])[:2], ("broken", (("yes",), ("no",))))
        turns = Program([TURNS])
        self.exact(self.check(turns, "n", [0, 1, 2])[0], "bad")
        self.exact(self.check(turns, "n", [])[0], "broken")
        self.exact(judge_kept(LATER, "n", [0, 1, 2, 3], ((0,), (1,), (2,), (3,))), False)

    def test_drawn_programs(self):
        chance = random.Random(388)
        words = {"kept": 0, "broken": 0, "bad": 0}
        for made in any_programs(389, 120) + swift_programs(390, 40):
            kinds = dict(made.streams_at(made.main()[0]))
            for output in made.main()[2]:
                values = [value for value in values_of(kinds[output]) if chance.random() < 0.9]
                words[self.check(made, output, values)[0]] += 1
        self.assertGreater(min(words.values()), 20)

    def test_errors(self):
        calls = [(wish_kept,), (judge_kept, ((0,), (1,), (2,), (3,))), (judge_kept, None)]
        for call, *rest in calls:
            for name in [*NOTHINGS, "n", "step", "sum", ["m"], ("m",), {"m": 1}]:
                for values in [[0], [4], [None, []]]:
                    self.apart(self.raised(UnknownName, {"name": name}, call, ADDS, name, values, *rest), name)
            for value in [*NOTHINGS, 4, -1, "0", (0,), [0], (0, 0)]:
                if not (isinstance(value, int) and not isinstance(value, bool) and 0 <= value < 4):
                    for number, values in enumerate([[value], [1, value], [1, 0, value, value, None]]):
                        self.raised(BadValue, {"path": (number,)}, call, ADDS, "m", values, *rest)
        made = Program([("n", (("b", BOTH),), ("o",), ((("o",), ("table", BOTH, (("red", 0),) * 4, ("b",))),))])
        for values, path in [([("red", 2)], (0, 1)), ([("red", 1), ("green", 2)], (1, 0)),
                             ([("red", 0), ("blue", True)], (1, 1)), ([("red",)], (0,)), ([["red", 1]], (0,))]:
            self.raised(BadValue, {"path": path}, wish_kept, made, "o", values)
            self.raised(BadValue, {"path": path}, judge_kept, made, "o", values, ((),))
        self.exact(wish_kept(made, "o", [("red", 0)]), ("kept", ((),)))
        for value in NOTHINGS:
            self.exact(self.untouched(judge_kept, ADDS, "m", [0, 1, 2, 3], value), False)

    def test_nothing_is_kept(self):
        values = [0, 1, 2, 3]
        self.untouched(wish_kept, ADDS, "m", values)
        self.untouched(judge_kept, Program(NESTED), "o", [0], ())
        self.assertEqual(values, [0, 1, 2, 3])
        self.assertEqual(FOUR, ("count", 4))
