"""Programs that are alike, and runs that part them: [9.4]."""

import random

from cases import Case, NOTHINGS
from drawn import swift_programs
from lotwords import alike_by_words, do_part, rows_of, runs_of
from samples import FOUR, HALVES, SOMETIMES, SUM, THREE, TURNS, YES_NO
from test_lots import LATER, WIDE, any_programs, bent
from tickworks.alike import alike, judge_alike, judge_parts
from tickworks.errors import BadProgram, NameMissing, TickError, TooMany
from tickworks.nodes import Program
from tickworks.nodetexts import program_text, read_program
from tickworks.rounds import first_state
from tickworks.runs import run, tick

ADDS = Program([SUM])
# The same sums, held the other way about.
BACKWARDS = read_program("""node main
in step count(4)
out m
r = held count(4) 3 t step
k = table count(4) 3 2 1 0 : r
m = op plus k step
t = table count(4) 3 2 1 0 : m
""")
# One more tick ago, and it is another one only behind a while.
SLOWLY = read_program("""node wide
in b lot(no,yes)
out n
n = held count(6) 0 m b
m = table count(6) 0 1 1 2 2 3 3 4 4 5 5 5 : n b
""")


def renamed(made, chance):
    """A program that runs as another one does: main called otherwise, its equations in another order."""
    name, inputs, outputs, equations = made.main()
    equations = list(equations)
    chance.shuffle(equations)
    return Program([*made.nodes()[:-1], ("other", inputs, outputs, tuple(equations))])


def fits(one, other):
    """Whether two programs fit."""
    kinds, more = dict(one.streams_at(one.main()[0])), dict(other.streams_at(other.main()[0]))
    same = one.main()[1:3] == other.main()[1:3]
    return same and all(kinds[output] == more[output] for output in one.main()[2])


def pairs_of_programs(seed, count):
    """Pairs of programs that fit, drawn: one with one operand changed, in another order, another one by chance."""
    chance = random.Random(seed)
    found = []
    for made in any_programs(seed, count) + swift_programs(seed + 1, count):
        try:
            other = Program(bent(made.nodes(), chance)) if chance.random() < 0.7 else renamed(made, chance)
        except (TickError, NameMissing):
            continue
        if fits(made, other):
            found.append((made, other))
    return found


class TestAlike(Case):
    """alike"""

    def check(self, one, other):
        """Checks what is told of two programs that fit."""
        want = alike_by_words(one, other)
        got = self.untouched(alike, one, other)
        self.exact(got, want)
        if got[0] == "alike":
            lot = got[1]
            self.exact(judge_alike(one, other, lot), None)
            self.exact(alike(one, other, pairs=len(lot)), want)
            if len(lot) > 1:
                self.raised(TooMany, {}, lambda: alike(one, other, pairs=len(lot) - 1))
        else:
            self.exact(judge_parts(one, other, got[1]), True)
            self.assertTrue(do_part(run(one, list(got[1]))[-1], run(other, list(got[1]))[-1]))
        return got

    def test_alike(self):
        for made in [ADDS, WIDE, LATER, Program([TURNS]), Program([HALVES]), Program([SOMETIMES])]:
            self.assertEqual(self.check(made, made)[0], "alike")
            self.assertEqual(self.check(made, renamed(made, random.Random(1)))[0], "alike")
        self.exact(self.check(ADDS, BACKWARDS), ("alike", tuple(((k,), (3 - k,)) for k in range(4))))
        self.exact(self.check(BACKWARDS, ADDS), ("alike", tuple(((3 - k,), (k,)) for k in range(4))))

    def test_programs_that_part(self):
        self.exact(self.check(WIDE, SLOWLY), ("parts", (("yes",),) * 6 + (("no",),)))
        less = Program([("sum", SUM[1], ("m",), ((("n",), ("held", FOUR, 1, "m", "step")), SUM[3][1]))])
        self.exact(self.check(ADDS, less), ("parts", ((0,),)))
        # The tick at which they part is met ahead of the pair that is behind it.
        self.exact(alike(WIDE, SLOWLY, pairs=7), ("parts", (("yes",),) * 6 + (("no",),)))
        for pairs in range(1, 7):
            self.raised(TooMany, {}, lambda: alike(WIDE, SLOWLY, pairs=pairs))

    def test_bad_ticks(self):
        good = read_program("node g\nin b lot(no,yes)\nout n\nn = held count(4) 0 u b\n"
                            "u = table count(4) 0 1 1 2 2 3 3 3 : n b\n")
        self.exact(self.check(LATER, good), ("parts", (("yes",), ("yes",), ("no",))))
        self.exact(self.check(good, LATER), ("parts", (("yes",), ("yes",), ("no",))))
        # Where one clashes the other one is stuck.
        swapped = read_program(program_text(LATER).replace("ok ok bad odd", "ok ok odd bad"))
        word, inputs = self.check(LATER, swapped)
        self.exact([word, inputs], ["parts", (("yes",), ("yes",), ("no",))])
        self.exact([run(made, list(inputs))[-1][0] for made in [LATER, swapped]], ["clash", "stuck"])
        # Both clash, with other streams; that is no difference.
        more = read_program(program_text(LATER).replace("k = op and k t", "k = op or k t"))
        self.exact(self.check(LATER, more)[0], "alike")
        self.exact(self.check(LATER, LATER), ("alike", (((0,), (0,)), ((1,), (1,)), ((2,), (2,)))))

    def test_absent_outputs_are_told(self):
        halves = Program([HALVES])
        other = Program([("h", HALVES[1], HALVES[2], (
            (("x",), ("when", "s", "b", "no")), (("y",), ("when", "s", "b", "yes")),
            (("z",), ("choose", "b", ("x", "y")))))])
        self.exact(self.check(halves, other), ("parts", ((0, "no"),)))

    def test_drawn_programs(self):
        words = {"alike": 0, "parts": 0}
        for one, other in pairs_of_programs(400, 150):
            words[self.check(one, other)[0]] += 1
        self.assertGreater(min(words.values()), 30)

    def test_no_run_parts_alike_ones_and_none_is_shorter(self):
        for one, other in pairs_of_programs(402, 60):
            word, found = alike(one, other)
            if len(rows_of(one)) < 7:
                most = 2 if word == "alike" else len(found)
                for inputs in runs_of(one, most if most < 4 else 0):
                    parts = bool(inputs) and self.part_at_last(one, other, inputs)
                    if parts:
                        self.assertEqual((word, found), ("parts", inputs))
                        break

    def part_at_last(self, one, other, inputs):
        """Whether two programs part at the last tick of a run."""
        told, more = run(one, list(inputs)), run(other, list(inputs))
        return len(told) == len(inputs) == len(more) and do_part(told[-1], more[-1])

    def test_what_does_not_fit(self):
        inputs, outputs, equations = SUM[1:]
        kinds = [Program([("sum", (("by", FOUR),), outputs, (
                     (("n",), ("held", FOUR, 0, "m", "by")), (("m",), ("op", "plus", ("n", "by"))))),]),
                 Program([("sum", (("step", THREE),), outputs, (
                     (("n",), ("held", THREE, 0, "m", "step")), (("m",), ("op", "plus", ("n", "step"))))),]),
                 Program([("sum", (*inputs, ("b", YES_NO)), outputs, equations)]),
                 Program([("sum", (("b", YES_NO), *inputs), outputs, equations)]),
                 Program([("sum", inputs, ("n",), equations)]),
                 Program([("sum", inputs, ("m", "n"), equations)]),
                 Program([("sum", inputs, outputs, (
                     (("n",), ("held", FOUR, 0, "step", "step")), (("m",), ("op", "same", ("n", "step")))))])]
        for made in kinds:
            for one, other in [(ADDS, made), (made, ADDS)]:
                self.raised(BadProgram, {"path": ()}, alike, one, other)
                self.raised(BadProgram, {"path": ()}, lambda: alike(one, other, pairs=1))
                for value in [None, (), [], (((0,), (0,)),), ((0,),)]:
                    self.raised(BadProgram, {"path": ()}, judge_alike, one, other, value)
                    self.raised(BadProgram, {"path": ()}, judge_parts, one, other, value)
        two = [Program([("sum", inputs, order, equations)]) for order in [("m", "n"), ("n", "m")]]
        self.raised(BadProgram, {"path": ()}, alike, *two)
        words = [Program([("n", (("i", ("lot", lot)),), ("o",), ((("o",), ("op", "same", ("i", "i"))),))])
                 for lot in [("a", "b"), ("b", "a")]]
        self.raised(BadProgram, {"path": ()}, alike, *words)


LOT = tuple(((k,), (3 - k,)) for k in range(4))


class TestJudged(Case):
    """judge_alike, judge_parts"""

    def test_lots(self):
        for value in [LOT, LOT[::-1], LOT[2:] + LOT[:2]]:
            self.exact(judge_alike(ADDS, BACKWARDS, value), None)
        self.exact(judge_alike(ADDS, BACKWARDS, ()), ("first",))
        self.exact(judge_alike(ADDS, BACKWARDS, LOT[1:]), ("first",))
        self.exact(judge_alike(ADDS, BACKWARDS, (((0,), (0,)), *LOT[1:])), ("first",))
        self.exact(judge_alike(ADDS, BACKWARDS, LOT[:3]), ("open", 0, (3,)))
        self.exact(judge_alike(ADDS, BACKWARDS, LOT[:1] + LOT[2:]), ("open", 0, (1,)))
        self.exact(judge_alike(ADDS, BACKWARDS, (*LOT, ((0,), (0,)))), ("parts", 4, (0,)))
        self.exact(judge_alike(ADDS, BACKWARDS, (((0,), (0,)), *LOT)), ("parts", 0, (0,)))
        self.exact(judge_alike(WIDE, SLOWLY, tuple(((k,), (k,)) for k in range(6))), ("open", 5, ("yes",)))
        more = tuple(((k,), (k,)) for k in range(6)) + (((0,), (5,)),)
        self.exact(judge_alike(WIDE, SLOWLY, more), ("parts", 6, ("no",)))
        # At one row parting is told ahead of what is open.
        self.exact(judge_alike(WIDE, SLOWLY, (((5,), (0,)), ((0,), (0,)))), ("parts", 0, ("no",)))

    def test_forms(self):
        for value in [*NOTHINGS, list(LOT), LOT + LOT[:1], (*LOT, ((0,),)), (*LOT, [(0,), (0,)]), (*LOT, ((4,), (0,))),
                      (*LOT, ((0,), (4,))), (*LOT, ((0,), [0])), (*LOT, ((0,), (0,), (0,))), (*LOT, ((True,), (2,))),
                      (*LOT, None), (*LOT, ((), ())), (*LOT, (0, 0)), {LOT: 1}, (LOT,), LOT[0], (*LOT, ((0,), None))]:
            want = ("first",) if value == () else ("form",)
            self.exact(self.untouched(judge_alike, ADDS, BACKWARDS, value), want)

    def test_bad_ticks_of_one_kind_lead_nowhere(self):
        lot = alike(LATER, LATER)[1]
        self.exact(judge_alike(LATER, LATER, lot), None)
        self.exact(judge_alike(LATER, LATER, (*lot, ((3,), (3,)))), None)
        self.exact(judge_alike(LATER, LATER, (*lot, ((2,), (3,)))), ("parts", 3, ("no",)))
        self.exact(judge_alike(LATER, LATER, (((3,), (2,)), *lot)), ("parts", 0, ("no",)))
        self.exact(judge_alike(LATER, LATER, lot[:2]), ("open", 1, ("yes",)))

    def fault(self, one, other, value):
        """The fault of a list of pairs of states."""
        if len(set(value)) < len(value):
            return ("form",)
        if (first_state(one), first_state(other)) not in value:
            return ("first",)
        for k, (state, more) in enumerate(value):
            for row in rows_of(one):
                told, other_told = tick(one, state, row), tick(other, more, row)
                if do_part(told, other_told):
                    return ("parts", k, row)
                if told[0] == "good" and (told[2], other_told[2]) not in value:
                    return ("open", k, row)
        return None

    def test_bent_lots(self):
        chance = random.Random(404)
        faults = {}
        for one, other in pairs_of_programs(405, 60):
            word, found = alike(one, other)
            lot = list(found) if word == "alike" else [(first_state(one), first_state(other))]
            for _ in range(5):
                value = list(lot)
                way = chance.randrange(4)
                if way == 0:
                    value.pop(chance.randrange(len(value)))
                elif way == 1:
                    value.append(chance.choice(value))
                elif way == 2:
                    value.insert(chance.randrange(len(value)), (chance.choice(value)[0], chance.choice(value)[1]))
                else:
                    chance.shuffle(value)
                want = self.fault(one, other, value)
                self.exact(judge_alike(one, other, tuple(value)), want)
                faults[want and want[0]] = faults.get(want and want[0], 0) + 1
        self.assertEqual(set(faults), {None, "form", "first", "parts", "open"})

    def test_runs(self):
        inputs = alike(WIDE, SLOWLY)[1]
        self.exact(judge_parts(WIDE, SLOWLY, inputs), True)
        self.exact(judge_parts(WIDE, SLOWLY, (("no",), *inputs)), True)
        self.exact(judge_parts(WIDE, SLOWLY, inputs[:-1] + (("yes",),)), True)
        for value in [*NOTHINGS, list(inputs), inputs[:-1], inputs[1:], (*inputs, ("no",)), (), tuple(map(list, inputs)),
                      (*inputs[:-1], ("maybe",)), (*inputs[:-1], ()), (*inputs[:-1], None), inputs[0], (inputs,),
                      (*inputs[:-1], (True,)), (*inputs[:-1], "no"), {inputs: 1}, "yes", (("no",),)]:
            self.exact(self.untouched(judge_parts, WIDE, SLOWLY, value), False)

    def test_runs_with_bad_ticks(self):
        swapped = read_program(program_text(LATER).replace("ok ok bad odd", "ok ok odd bad"))
        inputs = (("yes",), ("yes",), ("no",))
        self.exact(judge_parts(LATER, swapped, inputs), True)
        self.exact(judge_parts(LATER, LATER, inputs), False)
        self.exact(judge_parts(LATER, swapped, (*inputs, ("no",))), False)
        # Ahead of the last one all ticks are good; two bad ones of one kind are none.
        self.exact(judge_parts(LATER, LATER, (*inputs, ("no",))), False)

    def test_drawn_runs(self):
        chance = random.Random(406)
        told = {True: 0, False: 0}
        for one, other in pairs_of_programs(407, 100):
            word, found = alike(one, other)
            for _ in range(4):
                inputs = tuple(chance.choice(rows_of(one)) for _ in range(chance.randint(1, 3)))
                if word == "parts" and chance.random() < 0.5:
                    inputs = found[:-1] + inputs[:1]
                runs = run(one, list(inputs)), run(other, list(inputs))
                ahead = [tick_told[0] == more[0] == "good" and tick_told[1] == more[1]
                         for tick_told, more in zip(runs[0][:-1], runs[1][:-1])]
                want = len(runs[0]) == len(runs[1]) == len(inputs) and all(ahead) and do_part(runs[0][-1], runs[1][-1])
                self.exact(judge_parts(one, other, inputs), want)
                told[want] += 1
        self.assertGreater(min(told.values()), 40)
