"""What the log tells of moments, and attempts: [10.3], [10.5], [10.7]."""

import random

from cases import Case, NOTHINGS
from drawn import swift_programs
from plantwords import (
    Model, common_by_model, common_by_plant, drawn_move, grown_plant, plants_to_draw, result_of, told_by_model,
    told_by_plant, ways_by_model, ways_by_plant,
)
from samples import HALVES, SUM
from test_plant import LESS, plant_behind
from tickworks.branches import attempt, come_of, elders, last_common, line_to, story, tried
from tickworks.errors import (
    BadDeed, BadName, BadValue, NameMissing, NoMoment, NothingDone, OtherFace, TickError, TooMany, UnknownName,
)
from tickworks.plant import Plant


def branched_plant():
    """A plant whose moments make this tree: 0 - 1 - 2 - 5, 1 - 3 - 4, 0 - 6."""
    plant = plant_behind(1, 2)
    plant.branch("a")
    plant.undo()
    plant.do(("swap", LESS))
    plant.do(("tick", (3,)))
    plant.go("a")
    plant.do(("renew",))
    plant.go("main")
    for _ in range(3):
        plant.undo()
    plant.do(("tick", (0,)))
    return plant


class TestLog(Case):
    """elders, last_common, come_of, line_to, story"""

    def test_a_tree(self):
        plant = branched_plant()
        self.exact([elder for elder, _ in plant.log()], [0, 1, 1, 3, 2, 0])
        for number, found, come in [
            (0, [0], [0, 1, 2, 3, 4, 5, 6]), (1, [0, 1], [1, 2, 3, 4, 5]), (2, [0, 1, 2], [2, 5]),
            (3, [0, 1, 3], [3, 4]), (4, [0, 1, 3, 4], [4]), (5, [0, 1, 2, 5], [5]), (6, [0, 6], [6]),
        ]:
            self.exact([elders(plant, number), come_of(plant, number)], [found, come])
        for one, other, common in [(4, 5, 1), (5, 4, 1), (2, 5, 2), (5, 2, 2), (6, 4, 0), (3, 3, 3), (0, 6, 0), (4, 3, 3)]:
            self.exact(last_common(plant, one, other), common)
        self.exact(line_to(plant, 4), [("tick", (1,)), ("swap", LESS), ("tick", (3,))])
        self.exact([line_to(plant, 0), line_to(plant, 6)], [[], [("tick", (0,))]])
        self.exact([story(plant, number) for number in range(7)],
                   [[], [(1,)], [(1,), (3,)], [(1,)], [(1,), (0,)], [(1,), (3,)], [(0,)]])

    def test_absent_outputs_are_told(self):
        plant = Plant([HALVES])
        plant.do(("tick", (3, "no")))
        plant.do(("take", [HALVES]))
        plant.do(("tick", (2, "yes")))
        self.exact(story(plant, 3), [(None, 3), (2, 2)])
        self.exact(line_to(plant, 3)[1], ("take", (HALVES,)))

    def test_numbers_that_are_none(self):
        plant = branched_plant()
        for number in [*NOTHINGS, 7, -1, True, False, "1", (1,), [1], {1: 1}]:
            if number in (0, 1) and not isinstance(number, bool):
                continue
            for call in [elders, come_of, line_to, story]:
                self.apart(self.raised(NoMoment, {"number": number}, call, plant, number), number)
            self.raised(NoMoment, {"number": number}, last_common, plant, number, 2)
            self.raised(NoMoment, {"number": number}, last_common, plant, 2, number)
            self.raised(NoMoment, {"number": number}, last_common, plant, number, 99)
        self.raised(NoMoment, {"number": 98}, last_common, plant, 98, 99)
        self.assertTrue(issubclass(NoMoment, NameMissing))

    def test_new_lists(self):
        plant = branched_plant()
        for call in [elders, come_of, line_to, story]:
            self.fresh(call, plant, 4)

    def test_drawn_plants(self):
        for seed, made in enumerate(plants_to_draw(440, 15)):
            plant, model = grown_plant(made, seed, 50)
            for number in range(len(plant)):
                self.exact(ways_by_plant(plant, number), ways_by_model(model, number))
                for other in range(0, len(plant), 3):
                    self.exact(common_by_plant(plant, number, other), common_by_model(model, number, other))


class Strange(Exception):
    """An error that is no error of the package."""


ERRORS = [Strange, ValueError, KeyError, StopIteration, RuntimeError, RecursionError, MemoryError, KeyboardInterrupt,
          SystemExit, GeneratorExit, AssertionError, TickError, NameMissing, BaseException]


class TestAttempts(Case):
    """attempt, tried"""

    def test_attempts_that_end_well(self):
        plant = plant_behind(1)
        told = []

        def action(handed):
            told.append(handed is plant)
            handed.do(("tick", (2,)))
            handed.branch("a")
            return [handed.do(("renew",)), {"a": 1}]

        self.exact(attempt(plant, action), [3, {"a": 1}])
        self.exact([told, len(plant), plant.present(), plant.branches()], [[True], 4, 3, ["main", "a"]])
        for value in [None, 0, (), plant, [plant]]:
            self.assertIs(attempt(plant, lambda handed, value=value: value), value)
        self.exact(len(plant), 4)

    def fails(self, plant, error, action):
        """Checks an attempt that an error leaves."""
        before, twin = told_by_plant(plant), plant.twin()
        try:
            attempt(plant, action)
        except BaseException as caught:
            self.assertIs(caught, error)
        else:
            self.fail("the error did not go on")
        self.exact(told_by_plant(plant), before)
        self.assertTrue(plant == twin)
        for number in range(len(plant)):
            self.exact(ways_by_plant(plant, number), ways_by_plant(twin, number))
        self.raised(NoMoment, {"number": len(plant)}, plant.moment, len(plant))

    def test_each_error(self):
        for kind in ERRORS:
            error = kind("x")

            def action(handed, error=error):
                handed.do(("tick", (3,)))
                handed.branch("a")
                handed.go("a")
                handed.undo() if handed.mark("a") else handed.do(("renew",))
                raise error

            plant = branched_plant_without_a()
            self.fails(plant, error, action)
            self.fails(plant, error, action)
            number = len(plant)
            self.exact([plant.do(("tick", (1,))), plant.branch("a"), plant.branches()[-1]], [number, None, "a"])

    def test_errors_ahead_of_any_deed(self):
        plant = branched_plant()
        error = Strange()

        def action(handed):
            raise error

        self.fails(plant, error, action)
        self.raised(TypeError, {}, attempt, plant, None)
        self.raised(TypeError, {}, attempt, plant, lambda: None)

    def test_behind_moves_alone(self):
        for move in [lambda p: p.undo(), lambda p: p.go("a"), lambda p: p.branch("b"), lambda p: p.do(("renew",)),
                     lambda p: (p.undo(), p.redo(), p.undo()), lambda p: (p.undo(), p.do(("swap", LESS)))]:
            error = KeyboardInterrupt()

            def action(handed, move=move, error=error):
                move(handed)
                raise error

            plant = branched_plant()
            self.fails(plant, error, action)

    def test_errors_of_the_plant(self):
        for deed, error in [(("tick", (4,)), BadValue), (None, BadDeed), (("take", [HALVES]), OtherFace)]:
            plant = branched_plant()
            before = told_by_plant(plant)

            def action(handed, deed=deed):
                handed.do(("tick", (1,)))
                handed.do(deed)

            self.raised(error, {}, attempt, plant, action)
            self.exact(told_by_plant(plant), before)
        plant = Plant([SUM])
        self.raised(NothingDone, {}, attempt, plant, lambda handed: (handed.do(("renew",)), handed.undo(), handed.undo()))
        self.exact([len(plant), plant.trail("main")], [1, [0]])
        self.raised(UnknownName, {"name": "b"}, attempt, plant, lambda handed: (handed.branch("a"), handed.go("b")))
        self.raised(BadName, {"name": "a"}, attempt, plant, lambda handed: (handed.branch("a"), handed.branch("a")))
        self.exact(plant.branches(), ["main"])

    def test_an_error_that_does_not_leave(self):
        plant = plant_behind(1)

        def action(handed):
            handed.do(("tick", (2,)))
            try:
                handed.do(("tick", (9,)))
            except BadValue:
                pass
            return handed.do(("renew",))

        self.exact([attempt(plant, action), len(plant)], [3, 4])

    def test_attempts_within_attempts(self):
        plant = plant_behind(1)

        def inner(handed):
            handed.do(("tick", (2,)))
            raise Strange()

        def outer(handed):
            handed.do(("tick", (3,)))
            before = told_by_plant(handed)
            for _ in range(2):
                self.raised(Strange, {}, attempt, handed, inner)
                self.exact(told_by_plant(handed), before)
            return attempt(handed, lambda again: again.do(("renew",)))

        self.exact([attempt(plant, outer), len(plant), plant.trail("main")], [3, 4, [0, 1, 2, 3]])

        def broken(handed):
            attempt(handed, lambda again: again.do(("renew",)))
            self.exact(len(handed), 5)
            raise KeyboardInterrupt()

        before = told_by_plant(plant)
        self.raised(KeyboardInterrupt, {}, attempt, plant, broken)
        self.exact(told_by_plant(plant), before)
        self.raised(Strange, {}, attempt, plant, lambda handed: attempt(handed, lambda again: attempt(again, inner)))
        self.exact(told_by_plant(plant), before)

    def test_twins_and_others_within_attempts(self):
        plant, other = plant_behind(1), plant_behind(2)
        twins = []

        def action(handed):
            handed.do(("tick", (2,)))
            twins.append(handed.twin())
            other.do(("renew",))
            raise Strange()

        self.raised(Strange, {}, attempt, plant, action)
        self.exact([len(plant), len(twins[0]), len(other)], [2, 3, 3])
        self.exact(twins[0].do(("renew",)), 3)
        self.exact(len(plant), 2)

    def test_generators_that_end(self):
        plant = plant_behind(1)

        def wait():
            def action(handed):
                handed.do(("renew",))
                raise GeneratorExit()
            attempt(plant, action)
            yield

        self.raised(GeneratorExit, {}, lambda: next(wait()))
        self.exact(len(plant), 2)

    def test_drawn_attempts(self):
        chance = random.Random(441)
        others = swift_programs(442, 4)
        for made in plants_to_draw(443, 12):
            plant, model = Plant(made.nodes()), Model(made.nodes())
            for _ in range(12):
                moves = [drawn_move(model, chance, others) for _ in range(chance.randint(1, 4))]
                fails = chance.random() < 0.6

                def action(handed, moves=moves, fails=fails):
                    told = [result_of(getattr(handed, name), *args) for name, args in moves]
                    if fails:
                        raise KeyboardInterrupt()
                    return told

                kept = model.kept()
                want = [result_of(getattr(model, name), *args) for name, args in moves]
                if fails:
                    model.put_back(kept)
                    self.raised(KeyboardInterrupt, {}, attempt, plant, action)
                else:
                    self.exact(attempt(plant, action), want)
                self.exact(told_by_plant(plant), told_by_model(model))

    def test_tried(self):
        plant = plant_behind(1)
        self.exact(tried(plant, []), [])
        self.exact(tried(plant, [("tick", (2,)), ("renew",), ("swap", LESS)]), [2, 3, 4])
        self.exact(tried(plant, (("tick", (1,)),)), [5])
        self.exact([len(plant), plant.present()], [6, 5])
        deeds = [("tick", (1,)), ("take", [LESS])]
        self.untouched(lambda handed: tried(plant, handed), deeds)
        self.exact([len(plant), plant.log()[-1]], [8, (6, ("take", (LESS,)))])

    def test_tried_deeds_that_cannot_be_done(self):
        plant = branched_plant()
        before = told_by_plant(plant)
        for deeds, error, attributes in [
            ([("tick", (1,)), ("tick", (4,))], BadValue, {"path": (0,)}),
            ([("renew",), ("tick", (1,)), None, ("tick", (9,))], BadDeed, {}),
            ([("swap", LESS), ("swap", HALVES)], UnknownName, {"name": "halves"}),
            ([("tick", (1,))] * 194, TooMany, {}),
            ([None], BadDeed, {}),
        ]:
            self.raised(error, attributes, tried, plant, deeds)
            self.exact(told_by_plant(plant), before)
        self.exact(tried(plant, [("tick", (1,))] * 193), list(range(7, 200)))
        self.exact(len(plant), 200)


def branched_plant_without_a():
    """A plant behind some moves, in its first branch alone."""
    plant = plant_behind(1, 2, 3)
    plant.undo()
    plant.do(("swap", LESS))
    plant.undo()
    return plant
