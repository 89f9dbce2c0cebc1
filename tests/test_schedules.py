"""Plans run by schedules: [8.5]."""

import random

from cases import Case, NOTHINGS
from drawn import drawn_ticks, swift_programs
from planwords import Player, drawn_plan, told_by_words
from samples import KEEPS, NESTED, RARELY, SOMETIMES, SUM
from test_arcs import APART, FOURFOLD, LOCKED
from test_plans import BEGUN, KEPT, LATE, OWN, PLAN
from tickworks.arcs import flows, groups
from tickworks.errors import BadInputs
from tickworks.nodes import Program
from tickworks.nodetexts import read_program
from tickworks.plans import judge_plan, planned, with_room
from tickworks.runs import run
from tickworks.schedules import run_plan, steady
from tickworks.written import helds_of, written_out

ADDS = Program([SUM])


def columns(made, inputs):
    """The dict from main's outputs to what run tells of them."""
    told = run(made, inputs)
    return {output: [outputs[place] for _, outputs, _ in told] for place, output in enumerate(made.main()[2])}


class TestRunPlan(Case):
    """run_plan"""

    def test_step_by_step(self):
        inputs = [(1,), (2,)]
        schedule = [0, 0, 1, 1, 0, 0, 0, 0, 1, 1, 0, 0, 1, 1, 1, 0, 0, 0, 1, 1, 1, 0]
        dones = [(1, 0), (1, 0), (1, 1), (1, 2), (2, 2), (3, 2), (4, 2), (5, 2), (5, 3), (5, 4), (6, 4), (6, 4)]
        for many, done in enumerate(dones):
            told = {"m": [1] if done[0] >= 3 else []}
            self.exact(run_plan(ADDS, PLAN, inputs, schedule[:many + 1]), (told, done))
        self.exact(run_plan(ADDS, PLAN, inputs, schedule), ({"m": [1, 3]}, (10, 8)))
        self.exact(run_plan(ADDS, PLAN, inputs, [*schedule, 0, 1, 0, 1]), ({"m": [1, 3]}, (10, 8)))

    def test_no_steps_and_no_inputs(self):
        self.exact(run_plan(ADDS, PLAN, [], []), ({"m": []}, (0, 0)))
        self.exact(run_plan(ADDS, PLAN, [], [0, 1] * 20), ({"m": []}, (0, 0)))
        self.exact(run_plan(ADDS, PLAN, [(1,)], []), ({"m": []}, (0, 0)))
        self.exact(run_plan(ADDS, PLAN, ((1,),), (0, 0, 1)), ({"m": []}, (1, 1)))
        # No place begins a tick without inputs, also one that works on none.
        self.exact(run_plan(ADDS, LATE, [(1,)], [1] * 9), ({"m": []}, (0, 4)))
        self.exact(run_plan(ADDS, LATE, [(1,)], [1] * 9 + [0, 0, 0, 0, 1, 1, 0, 1]), ({"m": [1]}, (5, 4)))

    def test_a_late_channel(self):
        inputs = [(1,), (1,), (3,), (2,)]
        for room in [1, 2, 3, 4]:
            plan = with_room(LATE, 1, room)
            told, done = run_plan(ADDS, plan, inputs, [0, 1] * 40)
            self.exact([told, done], [columns(ADDS, inputs), (20, 16)])

    def test_errors(self):
        for row in [*NOTHINGS, (4,), (True,), (1, 1), [1], ("1",), ((1,),)]:
            for number, inputs in enumerate([[row], [(1,), row], [(1,), (2,), row, row]]):
                for schedule in [[], [0, 1] * 20]:
                    self.raised(BadInputs, {"number": number}, run_plan, ADDS, PLAN, inputs, schedule)

    def test_new_dicts(self):
        self.fresh(run_plan, ADDS, PLAN, [(1,), (2,)], [0, 1] * 30)
        self.untouched(run_plan, ADDS, PLAN, [(1,), (2,)], [0, 1] * 30)

    def test_the_order_of_outputs(self):
        made = read_program("""node main
in a count(2)
out d c
c = op plus a a
d = op plus c a
""")
        plan = planned(made, [0, 1, 0])
        self.exact(list(run_plan(made, plan, [(1,)], [0, 1] * 20)[0].items()), [("d", [1]), ("c", [0])])

    def test_groups_that_stand_still_beside_others(self):
        inputs = [(1, 0), (0, 1), (1, 1)]
        told, done = run_plan(FOURFOLD, APART, inputs, [0, 1, 2, 3] * 30)
        self.exact([told, done], [{"c": [0, 0, 0]}, (9, 9, 2, 0)])
        self.exact(run_plan(ADDS, LOCKED, [(1,), (2,)], [0, 1] * 50), ({"m": []}, (1, 0)))

    def programs(self):
        """Programs, many of them with helds, calls with agains, clocks that are closed."""
        drawn = swift_programs(370, 90) + swift_programs(371, 40, True)
        return drawn + [Program(nodes) for nodes in [KEEPS, RARELY, NESTED, [SOMETIMES], [SUM]]] * 3 + [
            BEGUN, KEPT, OWN] * 5

    def test_against_runs(self):
        chance = random.Random(372)
        late, elsewhere, vain, unfinished = 0, 0, 0, 0
        for made in self.programs():
            for _ in range(2):
                plan = drawn_plan(made, chance)
                self.exact(judge_plan(made, plan), None)
                late += sum(channel[3] for channel in plan[1])
                inputs = [found for _, found in drawn_ticks(made, chance, chance.randint(0, 5))]
                schedule = self.schedule(plan, chance)
                got = run_plan(made, plan, inputs, schedule)
                self.exact(got, told_by_words(made, plan, inputs, schedule))
                want = columns(made, inputs)
                for output, values in got[0].items():
                    self.exact(values, want[output][:len(values)])
                vain += len(schedule) > sum(got[1])
                unfinished += got[0] != want
                rights = dict(written_out(made))
                elsewhere += any(self.home(plan, held) != self.home(plan, rights[held][3]) for held in helds_of(made))
        self.assertGreater(min(late, elsewhere, vain, unfinished), 20)

    def home(self, plan, stream):
        """The place that does a stream."""
        return [("do", stream) in actions for actions in plan[0]].index(True)

    def schedule(self, plan, chance):
        """A drawn schedule, in which places stand once or in rows."""
        schedule = []
        for _ in range(chance.randint(0, 60)):
            schedule += [chance.randrange(len(plan[0]))] * chance.choice([1, 1, 1, 2, 9])
        return schedule

    def test_the_same_whatever_the_schedule(self):
        chance = random.Random(373)
        for made in self.programs()[::3]:
            plan = drawn_plan(made, chance)
            inputs = [found for _, found in drawn_ticks(made, chance, 3)]
            ends = []
            for _ in range(3):
                places = list(range(len(plan[0])))
                schedule = []
                for _ in range(60 * len(places)):
                    chance.shuffle(places)
                    schedule += places
                ends.append(run_plan(made, plan, inputs, schedule))
            self.exact(ends[1:], ends[:1] * 2)
            if flows(plan)[0] == "goes":
                self.exact(ends[0], (columns(made, inputs), tuple(3 * len(actions) for actions in plan[0])))


class TestSteady(Case):
    """steady"""

    def test_steady(self):
        self.exact([steady(PLAN, 0), steady(LOCKED, 0), steady(LOCKED, 2), steady(APART, 1)], [[], None, None, None])
        self.exact(steady((((("close",),), ()), ()), 3), [0, 0, 0])
        self.exact(steady((((),), ()), 3), [])
        self.fresh(steady, PLAN, 3)

    def test_no_step_in_vain(self):
        chance = random.Random(374)
        rings = 0
        for made in swift_programs(375, 60) + [ADDS, BEGUN, KEPT] * 6:
            plan = drawn_plan(made, chance)
            for ticks in [0, 1, 2, 5]:
                schedule = self.untouched(steady, plan, ticks)
                if flows(plan)[0] == "ring":
                    rings += 1
                    self.assertIsNone(schedule)
                    continue
                self.assertIsInstance(schedule, list)
                player = Player(plan)
                for p in schedule:
                    self.assertTrue(player.can(p))
                    player.act(p)
                self.assertEqual(player.counts, [ticks * len(actions) for actions in plan[0]])
                inputs = [found for _, found in drawn_ticks(made, chance, ticks)]
                self.exact(run_plan(made, plan, inputs, schedule), (columns(made, inputs), tuple(player.counts)))
        self.assertGreater(rings, 8)

    def test_planned_ones_go_on(self):
        chance = random.Random(376)
        for made in swift_programs(377, 50):
            plan = planned(made, [chance.randint(0, 3) for _ in written_out(made)])
            self.assertEqual(flows(plan)[0], "goes")
            self.assertEqual(len(steady(plan, 1)), sum(map(len, plan[0])))
            self.assertLessEqual(len(groups(plan)), 4)
