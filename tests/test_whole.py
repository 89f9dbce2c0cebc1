"""The whole: what drawn swift programs tell, told by rows, plans, tables and plants as well."""

import random

from cases import Case
from drawn import drawn_ticks, swift_programs
from lotwords import rows_of
from planwords import drawn_plan
from samples import ALL, HALVES, KEEPS, KEYWORDS, NESTED, OPS, RARELY, SOMETIMES, SUM, TWICE
from test_alike import renamed
from tickworks.alike import alike, judge_alike
from tickworks.arcs import flows
from tickworks.branches import story, tried
from tickworks.clocks import clocks, is_open, judge_clocks, written_clocks
from tickworks.compiler import bared, compiled, merged, shared
from tickworks.facts import judge_rows
from tickworks.items import deepest
from tickworks.lots import closed_lot, judge_closed, wish_kept
from tickworks.machine import run_rows, run_ticks
from tickworks.nodes import Program
from tickworks.nodetexts import program_text, read_program
from tickworks.orders import is_swift, judge_order, order_of
from tickworks.partings import calling_order, played, single_parting
from tickworks.plans import judge_plan, planned
from tickworks.plant import Plant
from tickworks.rounds import filled_by, filling, rounds
from tickworks.runs import run, tick
from tickworks.schedules import run_plan, steady
from tickworks.tables import as_program, is_table, least_table, run_table, table_of, tables_parted
from tickworks.types import values_of
from tickworks.users import serves
from tickworks.watching import goes_alike, replayed, right_from
from tickworks.written import written_out
from userwords import is_small

SAMPLES = [ALL, [HALVES], KEEPS, KEYWORDS, NESTED, [OPS], RARELY, [SOMETIMES], [SUM], [SUM, TWICE]]


class TestWhole(Case):
    """One program, told in each way"""

    def test_drawn_programs(self):
        chance = random.Random(470)
        for made in swift_programs(471, 70) + swift_programs(472, 40, True):
            self.whole(made, chance)

    def test_samples(self):
        chance = random.Random(473)
        for nodes in SAMPLES:
            for _ in range(3):
                self.whole(Program(nodes), chance)

    def whole(self, made, chance):
        """Checks all that tells what a swift program tells."""
        self.exact(is_swift(made), True)
        rows = rows_of(made)
        inputs = [chance.choice(rows) for _ in range(6)]
        told = run(made, inputs)
        self.assertEqual({found[0] for found in told}, {"good"})
        self.clocked(made, chance)
        self.by_rows(made, inputs, told, chance)
        self.by_plans(made, inputs, told, chance)
        self.by_lots(made, chance)
        self.by_tables(made, rows, inputs, told, chance)
        self.by_plants(made, inputs, told, chance)
        self.by_functions(made, chance)

    def clocked(self, made, chance):
        """[3.3], [4.2] to [4.4], [5.2] to [5.5]"""
        name = made.main()[0]
        self.exact(judge_clocks(made, {node[0]: clocks(made, node[0]) for node in made.nodes()}), None)
        self.exact(read_program(program_text(made)).nodes(), made.nodes())
        word, order = order_of(made)
        self.exact([word, judge_order(made, order)], ["order", None])
        clock = written_clocks(made)
        streams = [stream for stream, _ in written_out(made)]
        for state, row in drawn_ticks(made, chance, 3):
            standings = filling(made, state, row)
            for stream, standing in standings.items():
                self.assertEqual(standing[0] == "value", is_open(clock[stream], standings), (name, stream))
            found = rounds(made, state, row)
            self.assertLessEqual(len(found) - 1, deepest(made))
            self.exact(found[-1], standings)
            chance.shuffle(streams)
            self.exact(filled_by(made, state, row, streams), standings)

    def by_rows(self, made, inputs, told, chance):
        """[6.4], [6.5]"""
        found = compiled(made)
        for change in [lambda made, found: found, merged, bared, shared]:
            found = change(made, found)
            self.exact(judge_rows(made, found), None)
            self.exact(run_ticks(made, found, inputs), told)
            for state, row in drawn_ticks(made, chance, 3):
                self.exact(run_rows(made, found, state, row), tick(made, state, row))

    def by_plans(self, made, inputs, told, chance):
        """[8.4] to [8.7]"""
        want = {output: [outputs[place] for _, outputs, _ in told] for place, output in enumerate(made.main()[2])}
        where = [chance.randint(0, 3) for _ in written_out(made)]
        for plan in [planned(made, where), drawn_plan(made, chance)]:
            self.exact(judge_plan(made, plan), None)
            schedule = [chance.randrange(len(plan[0])) for _ in range(200)]
            got, done = run_plan(made, plan, inputs, schedule)
            for output, values in got.items():
                self.exact(values, want[output][:len(values)])
            if flows(plan)[0] == "goes":
                got, done = run_plan(made, plan, inputs, steady(plan, len(inputs)))
                self.exact([got, done], [want, tuple(len(inputs) * len(actions) for actions in plan[0])])

    def by_lots(self, made, chance):
        """[9.2], [9.3]"""
        word, lot = closed_lot(made)
        self.exact([word, judge_closed(made, lot)], ["closed", None])
        kinds = dict(made.streams_at(made.main()[0]))
        for output in made.main()[2]:
            self.exact(wish_kept(made, output, values_of(kinds[output])), ("kept", lot))

    def by_tables(self, made, rows, inputs, told, chance):
        """[9.4] to [9.6]"""
        table = table_of(made)
        self.exact(is_table(table), True)
        self.exact([entry[:2] for entry in run_table(table, [rows.index(row) for row in inputs])],
                   [found[:2] for found in told])
        other = renamed(made, chance)
        word, lot = alike(made, other)
        self.exact([word, judge_alike(made, other, lot), tables_parted(table, table_of(other))], ["alike", None, None])
        least = least_table(table)
        self.exact(least_table(table_of(other)), least)
        entries = [entry for line in least for entry in line]
        fits = 2 <= len(least) <= 6 and len(entries) <= 60 and not any(None in entry[1] for entry in entries)
        outputs = made.main()[2]
        kinds = dict(made.streams_at(made.main()[0]))
        if fits and len(outputs) < 5:
            again = as_program(least, made.main()[1], tuple((output, kinds[output]) for output in outputs))
            self.exact(alike(made, again)[0], "alike")
            self.exact(least_table(table_of(again)), least)

    def by_plants(self, made, inputs, told, chance):
        """[10.1] to [10.6]"""
        plant = Plant(made.nodes())
        numbers = tried(plant, [("tick", row) for row in inputs])
        self.exact(story(plant, numbers[-1]), [found[1] for found in told])
        self.exact([plant.moment(number)[1:] for number in numbers], [found[:0:-1] for found in told])
        self.exact(replayed(plant, numbers[-1], renamed(made, chance)), story(plant, numbers[-1]))
        self.exact(right_from(plant, made.nodes()), list(range(len(plant))))
        taken = plant.do(("take", renamed(made, chance).nodes()))
        (own, state, _), (other, more, _) = plant.moment(numbers[-1]), plant.moment(taken)
        self.exact(goes_alike(own, state, other, more)[0], "alike")

    def by_functions(self, made, chance):
        """[7.3], [7.4], [7.6]"""
        name = made.main()[0]
        if not is_small(made, name):
            return
        parting = single_parting(made, name)
        word, numbers = serves(made, name, parting)
        self.exact([word, calling_order(made, name, parting)[0]], ["serves", "order"])
        for state, row in drawn_ticks(made, chance, 2):
            _, outputs, after = tick(made, state, row)
            steps = [("give", word, value) for (word, _), value in zip(made.main()[1], row)]
            steps += [("call", number) for number in numbers] + [("close",)]
            got = played(made, name, parting, state, steps)
            self.exact(got[-1], after)
            self.exact(dict(pair for pairs in got[len(row):-1] for pair in pairs), {
                output: value for output, value in sorted(zip(made.main()[2], outputs),
                                                          key=lambda pair: self.place(parting, numbers, pair[0]))})

    def place(self, parting, numbers, output):
        """The place at which the function of an output is called."""
        return numbers.index([output in function for function in parting].index(True))
