"""What would come of other programs at a plant's moments: [10.2], [10.5], [10.6]."""

import random

from cases import Case, NOTHINGS
from drawn import drawn_ticks, swift_programs
from lotwords import alike_by_words, rows_of
from plantwords import drawn_deed, grown_plant, led_by_words, plants_to_draw, result_of, told_by_plant, with_other_values
from samples import COUNTER, FOUR, HALVES, LOOP, NESTED, PART, RING, SUM, THREE, TWICE
from test_alike import BACKWARDS, SLOWLY, fits, renamed
from test_branches import branched_plant
from test_lots import WIDE
from test_plant import LESS, MORE, TYPED, plant_behind
from tickworks.alike import alike
from tickworks.branches import elders, story
from tickworks.errors import (
    BadDeed, BadProgram, BadValue, MixedTypes, NameMissing, NoMoment, NotSwift, OtherFace, TickError, TooMany,
    TwiceTold, UnknownName,
)
from tickworks.nodes import Program
from tickworks.plant import Plant
from tickworks.rounds import first_state
from tickworks.runs import run, run_from
from tickworks.watching import goes_alike, led_state, replayed, right_from, would_part
from tickworks.written import helds_of

ADDS = Program([SUM])


def alike_from(one, state, other, more, cap=400):
    """What goes_alike tells, by the words."""
    word, found = alike_by_words(one, other, (state, more), cap)
    return word, list(found)


class TestLed(Case):
    """led_state"""

    def test_led(self):
        self.exact(led_state(ADDS, (3,), Program([LESS])), (3,))
        self.exact(led_state(ADDS, (3,), Program([MORE])), (3, 2))
        self.exact(led_state(Program([MORE]), (1, 3), ADDS), (1,))
        self.exact(led_state(Program([MORE]), (1, 3), Program([("x", *MORE[1:])])), (1, 3))
        self.exact(led_state(ADDS, (3,), Program([TYPED])), (2,))
        self.exact(led_state(Program([TYPED]), (1,), ADDS), (0,))
        self.exact(led_state(ADDS, (3,), Program([HALVES])), ())
        # Names are those of the written-out programs.
        self.exact(led_state(ADDS, (3,), Program([SUM, TWICE])), (0,))
        self.exact(led_state(Program([SUM, TWICE]), (3,), Program([LESS, TWICE])), (3,))

    def test_by_the_words(self):
        chance = random.Random(450)
        programs = swift_programs(451, 40)
        for made in programs:
            state = drawn_ticks(made, chance, 1)[0][0]
            for other in chance.sample(programs, 6) + [renamed(made, chance), made]:
                self.exact(self.untouched(led_state, made, state, other), led_by_words(made, state, other))
            self.exact(led_state(made, state, made), state)


class TestGoesAlike(Case):
    """goes_alike"""

    def check(self, one, state, other, more):
        """Checks what is told from two states on."""
        got = self.untouched(goes_alike, one, state, other, more)
        self.exact(got, alike_from(one, state, other, more))
        word, found = got
        if word == "alike":
            self.exact(goes_alike(one, state, other, more, pairs=len(found)), got)
            if len(found) > 1:
                self.raised(TooMany, {}, lambda: goes_alike(one, state, other, more, pairs=len(found) - 1))
        else:
            self.assertNotEqual(run_from(one, state, found)[-1][1], run_from(other, more, found)[-1][1])
        return got

    def test_from_states_that_are_not_the_first_ones(self):
        self.exact(self.check(ADDS, (2,), BACKWARDS, (1,)),
                   ("alike", [((k,), (3 - k,)) for k in [2, 3, 0, 1]]))
        self.exact(self.check(ADDS, (2,), BACKWARDS, (2,)), ("parts", [(0,)]))
        self.exact(self.check(WIDE, (4,), SLOWLY, (4,)), ("parts", [("yes",)] * 2 + [("no",)]))
        self.exact(self.check(WIDE, (5,), SLOWLY, (5,)), ("parts", [("yes",), ("no",)]))
        self.exact(goes_alike(WIDE, (4,), SLOWLY, (4,), pairs=3), ("parts", [("yes",)] * 2 + [("no",)]))
        self.raised(TooMany, {}, lambda: goes_alike(WIDE, (4,), SLOWLY, (4,), pairs=2))

    def test_against_alike(self):
        chance = random.Random(452)
        words = {"alike": 0, "parts": 0}
        for made in swift_programs(453, 80):
            nodes = renamed(made, chance).nodes()
            if chance.random() < 0.4:
                nodes[-1] = with_other_values(nodes[-1], chance)
            other = Program(nodes)
            word, found = alike(made, other)
            self.exact(goes_alike(made, first_state(made), other, first_state(other)), (word, list(found)))
            for _ in range(2):
                state, more = drawn_ticks(made, chance, 1)[0][0], drawn_ticks(other, chance, 1)[0][0]
                words[self.check(made, state, other, more)[0]] += 1
                words[self.check(made, state, other, led_by_words(made, state, other))[0]] += 1
        self.assertGreater(min(words.values()), 30)

    def test_other_faces(self):
        for other in [Program([HALVES]), Program([SUM, TWICE]), Program([("sum", *SUM[1:2], ("n",), SUM[3])]),
                      Program([("sum", SUM[1], ("m", "n"), SUM[3])])]:
            self.raised(OtherFace, {}, goes_alike, ADDS, (0,), other, first_state(other))
            self.raised(OtherFace, {}, lambda: goes_alike(other, first_state(other), ADDS, (0,), pairs=1))

    def test_new_lists(self):
        self.fresh(goes_alike, ADDS, (2,), BACKWARDS, (1,))
        self.fresh(goes_alike, WIDE, (4,), SLOWLY, (4,))


class TestReplayed(Case):
    """replayed"""

    def test_replayed(self):
        plant = branched_plant()
        less = Program([LESS])
        for number, want in [(0, []), (1, [(2,)]), (2, [(2,), (0,)]), (3, [(2,)]), (4, [(2,), (1,)]), (5, [(2,), (0,)]),
                             (6, [(1,)])]:
            self.exact(replayed(plant, number, less), want)
        self.fresh(replayed, plant, 5, less)

    def test_a_run_of_its_own_program(self):
        for seed, made in enumerate(plants_to_draw(454, 12)):
            plant, model = grown_plant(made, seed, 40)
            for number in range(len(plant)):
                inputs = [model.lines[other - 1][1][1] for other in model.elders(number)
                          if other and model.lines[other - 1][1][0] == "tick"]
                self.exact(replayed(plant, number, made), [told[1] for told in run(made, inputs)])
                self.assertEqual(len(story(plant, number)), len(inputs))
                ticks_alone = all(model.lines[other - 1][1][0] == "tick" for other in model.elders(number) if other)
                if ticks_alone:
                    self.exact(replayed(plant, number, made), story(plant, number))

    def test_errors(self):
        plant = branched_plant()
        programs = [Program([node]) for node in [RING, PART, LOOP, HALVES]]
        for number in [*NOTHINGS, 7, -1, True, False, [0]]:
            if number not in (0, 1) or isinstance(number, bool):
                for made in [*programs, ADDS]:
                    self.apart(self.raised(NoMoment, {"number": number}, replayed, plant, number, made), number)
        for made in programs[:3]:
            self.raised(NotSwift, {}, replayed, plant, 2, made)
        for made in [programs[3], Program([SUM, TWICE])]:
            self.raised(OtherFace, {}, replayed, plant, 2, made)
        self.raised(NotSwift, {}, replayed, plant, 2, Program([PART, SUM]))


class TestWouldPart(Case):
    """would_part"""

    def test_deeds(self):
        plant = branched_plant()
        before = told_by_plant(plant)
        self.exact(would_part(plant, []), ("alike", [((k,), (k,)) for k in [0, 1, 2, 3]]))
        self.exact(would_part(plant, [("tick", (1,))]), ("parts", [(0,)]))
        self.exact(would_part(plant, [("tick", (1,)), ("tick", (3,))])[0], "alike")
        self.exact(would_part(plant, (("swap", LESS), ("renew",))), ("parts", [(0,)]))
        self.exact(would_part(plant, [("swap", LESS)])[0], "alike")
        self.exact(would_part(plant, [("take", BACKWARDS.nodes())])[1][0], ((0,), (3,)))
        self.exact(told_by_plant(plant), before)
        self.fresh(would_part, plant, [("swap", LESS)])

    def test_deeds_that_cannot_be_done(self):
        plant = branched_plant()
        before = told_by_plant(plant)
        for deeds, error, attributes in [
            ([("tick", (1,)), ("tick", (4,))], BadValue, {"path": (0,)}), ([None], BadDeed, {}),
            ([("swap", LESS), ("swap", HALVES)], UnknownName, {"name": "halves"}), ([("renew",)] * 194, TooMany, {}),
            ([("take", [PART])], NotSwift, {}), ([("take", [HALVES])], OtherFace, {}),
        ]:
            self.raised(error, attributes, would_part, plant, deeds)
            self.exact(told_by_plant(plant), before)
        self.exact(would_part(plant, [("renew",)] * 193)[0], "alike")

    def test_too_many_pairs(self):
        # The two programs are alike till both are at their first states again, which is too far.
        plant = Plant([rounds_of(23)])
        self.raised(TooMany, {}, would_part, plant, [("swap", rounds_of(18))])
        self.exact(len(would_part(plant, [("swap", rounds_of(17))])[1]), 391)
        self.exact(len(plant), 1)

    def test_drawn(self):
        chance = random.Random(455)
        many = 0
        for seed, made in enumerate(plants_to_draw(456, 20)):
            plant, model = grown_plant(made, seed + 100, 20)
            before = told_by_plant(plant)
            for _ in range(4):
                deeds = [drawn_deed(plant.now()[0], chance, [made]) for _ in range(chance.randint(0, 3))]
                kept = model.kept()
                found = [result_of(model.do, deed) for deed in deeds]
                errors = [result for result in found if result[0] == "raised"]
                (own, state, _), (other, more, _) = plant.now(), model.moments[model.present()]
                model.put_back(kept)
                got = result_of(would_part, plant, deeds)
                self.exact(told_by_plant(plant), before)
                if errors:
                    self.exact(got, errors[0])
                else:
                    many += 1
                    self.exact(got, ("returned", alike_from(own, state, other, more)))
        self.assertGreater(many, 25)


def rounds_of(many):
    """A node that goes through so many states, one each tick, and tells nothing of it."""
    kind = ("pair", FOUR, ("count", 6))
    results = tuple(((n + 1) % many // 6, (n + 1) % many % 6) if n < many else (0, 0) for n in range(24))
    name = f"r{'abcdefghijklmnopqrstuvwx'[many - 1]}"
    return ("n", (("b", ("lot", ("no", "yes"))),), ("o",), (
        ((name,), ("held", kind, (0, 0), "q", "b")), (("q",), ("table", kind, results, (name,))),
        (("o",), ("op", "same", (name, name)))))


def by_fives(begins):
    """A node that is at its first state again after 25 ticks, perhaps one more at first."""
    five, again = ("count", 5), ("lot", ("no", "yes"))
    more = ((("f",), ("held", again, "no", "o", "b")),) if begins else ()
    return ("n", (("b", again),), ("o",), (
        (("u",), ("held", five, 0, "v", "b")), (("v",), ("table", five, (1, 2, 3, 4, 0), ("u",))),
        (("w",), ("held", five, 0, "x", "b")),
        (("x",), ("table", five, tuple((k + (j == 4)) % 5 for k in range(5) for j in range(5)), ("w", "u"))),
        *more, (("o",), ("op", "same", ("u", "u")))))


class TestFourHundred(Case):
    """Caps that are not told: just as many pairs, and one more"""

    def test_four_hundred_pairs(self):
        plant = Plant([rounds_of(16)])
        self.exact(right_from(plant, [by_fives(False)]), [0])
        word, pairs = would_part(plant, [("swap", by_fives(False))])
        self.exact([word, len(pairs)], ["alike", 400])
        self.exact(len(alike(Program([rounds_of(16)]), Program([by_fives(False)]))[1]), 400)
        self.exact(plant.do(("take", [by_fives(False)])), 1)

    def test_one_more(self):
        plant = Plant([rounds_of(16)])
        self.raised(TooMany, {}, right_from, plant, [by_fives(True)])
        self.raised(TooMany, {}, would_part, plant, [("swap", by_fives(True))])
        self.raised(TooMany, {}, would_part, plant, [("take", [by_fives(True)])])
        self.raised(TooMany, {}, plant.do, ("take", [by_fives(True)]))
        self.raised(TooMany, {}, alike, Program([rounds_of(16)]), Program([by_fives(True)]))
        self.exact(len(plant), 1)


class TestRightFrom(Case):
    """right_from"""

    def test_right_from(self):
        plant = branched_plant()
        self.exact(right_from(plant, [SUM]), [0, 1, 2, 3, 4, 5, 6])
        self.exact(right_from(plant, (LESS,)), [0, 1, 2, 3, 4, 5, 6])
        # k does not keep what n has: its state is the first one, wherever it is led from.
        other = ("sum", SUM[1], SUM[2], ((("k",), ("held", FOUR, 3, "m", "step")), (("m",), ("op", "plus", ("k", "step")))))
        self.exact(right_from(plant, [other]), [number for number in range(7) if plant.moment(number)[1] == (3,)])
        self.exact(right_from(plant, [other]), [2])
        half = ("sum", SUM[1], SUM[2], ((("m",), ("op", "plus", ("step", "step"))),))
        self.exact(right_from(plant, [half]), [])
        self.fresh(right_from, plant, [SUM])
        nodes = [SUM]
        self.untouched(lambda handed: right_from(plant, handed), nodes)

    def test_moments_that_no_trail_shows(self):
        plant = plant_behind(1, 2)
        plant.undo()
        plant.undo()
        plant.do(("renew",))
        self.exact([plant.trail("main"), right_from(plant, [SUM])], [[0, 3], [0, 1, 2, 3]])

    def test_drawn(self):
        chance = random.Random(457)
        some = 0
        for seed, made in enumerate(plants_to_draw(458, 50)):
            plant, model = grown_plant(made, seed + 200, 25)
            for _ in range(3):
                nodes = chance.choice(model.moments)[0].nodes()
                if chance.random() < 0.7:
                    nodes[-1] = with_other_values(nodes[-1], chance)
                other = Program(nodes)
                want = [number for number, (own, state, _) in enumerate(model.moments)
                        if alike_from(own, state, other, led_by_words(own, state, other))[0] == "alike"]
                self.exact(right_from(plant, nodes), want)
                some += 0 < len(want) < len(plant)
        self.assertGreater(some, 8)

    def test_errors(self):
        plant = branched_plant()
        before = told_by_plant(plant)
        for nodes in NOTHINGS:
            self.raised(BadProgram, {}, right_from, plant, nodes)
        self.raised(TwiceTold, {"name": "sum"}, right_from, plant, [SUM, SUM])
        self.raised(UnknownName, {"name": "sum"}, right_from, plant, [TWICE])
        self.raised(MixedTypes, {"node": "x", "stream": "a"}, right_from, plant,
                    [("x", (("i", THREE),), ("a",), ((("a",), ("op", "not", ("i",))),))])
        for node in [RING, PART, LOOP]:
            self.raised(NotSwift, {}, right_from, plant, [node])
        self.raised(OtherFace, {}, right_from, plant, [HALVES])
        self.raised(OtherFace, {}, right_from, plant, [COUNTER])
        self.exact(told_by_plant(plant), before)

    def test_too_many_pairs_at_any_moment(self):
        plant = Plant([rounds_of(17)])
        plant.do(("tick", ("no",)))
        self.exact(right_from(plant, [rounds_of(23)]), [0, 1])
        # Too far at a moment that no trail shows.
        plant.do(("swap", rounds_of(18)))
        plant.undo()
        plant.undo()
        plant.do(("tick", ("yes",)))
        self.exact(plant.trail("main"), [0, 3])
        self.raised(TooMany, {}, right_from, plant, [rounds_of(23)])
        self.exact(right_from(plant, [rounds_of(5)]), [0, 1, 2, 3])

    def test_two_hundred_moments(self):
        plant = Plant(NESTED)
        chance = random.Random(459)
        rows = rows_of(plant.now()[0])
        while len(plant) < 200:
            plant.do(("tick", chance.choice(rows)))
        self.exact(right_from(plant, NESTED), list(range(200)))
        self.assertEqual(len(elders(plant, 199)), 200)
        self.assertTrue(fits(plant.now()[0], Program(NESTED)))
        self.assertEqual(len(helds_of(Program(NESTED))), 4)
        self.assertTrue(issubclass(TickError, ValueError) and issubclass(NameMissing, LookupError))
