"""The examples of the interface from tickworks.users on, as they are shown there."""

import importlib
import inspect

from cases import Case
from tickworks.alike import alike, judge_alike, judge_parts
from tickworks.arcs import arcs, fills, flows, groups, judge_fill, judge_flow, stops
from tickworks.branches import elders, story, tried
from tickworks.lots import closed_lot, input_rows, judge_bad, judge_closed, wish_kept
from tickworks.nodes import Program
from tickworks.plans import judge_plan, moved_by, planned, wants
from tickworks.plant import Plant
from tickworks.schedules import run_plan, steady
from tickworks.tables import as_program, least_table, run_table, table_of, tables_parted
from tickworks.users import judge_user, serves, user_order
from tickworks.watching import goes_alike, replayed, right_from, would_part

# What the interface lists under each file, with how many arguments each takes, and its cap.
LISTED = {
    "users": {"user_order": (4, None), "serves": (3, None), "judge_user": (4, None)},
    "plans": {"wants": (2, None), "moved_by": (2, None), "judge_plan": (2, None), "planned": (2, None),
              "with_room": (3, None)},
    "arcs": {"arcs": (1, None), "flows": (1, None), "judge_flow": (2, None), "groups": (1, None), "stops": (1, None),
             "fills": (2, None), "judge_fill": (3, None)},
    "schedules": {"run_plan": (4, None), "steady": (2, None)},
    "lots": {"input_rows": (1, None), "closed_lot": (1, "states"), "judge_closed": (2, None), "judge_bad": (2, None),
             "wish_kept": (3, "states"), "judge_kept": (4, None)},
    "alike": {"alike": (2, "pairs"), "judge_alike": (3, None), "judge_parts": (3, None)},
    "tables": {"table_of": (1, "states"), "is_table": (1, None), "run_table": (2, None), "least_table": (1, None),
               "tables_parted": (2, None), "as_program": (3, None)},
    "plant": {"Plant": (1, None)},
    "branches": {"elders": (2, None), "last_common": (3, None), "come_of": (2, None), "line_to": (2, None),
                 "story": (2, None), "attempt": (2, None), "tried": (2, None)},
    "watching": {"led_state": (3, None), "goes_alike": (4, "pairs"), "replayed": (3, None), "would_part": (2, None),
                 "right_from": (2, None)},
}
PLANT = ["do", "undo", "redo", "branch", "go", "present", "here", "branches", "trail", "mark", "log", "moment", "now",
         "twin", "__len__", "__eq__"]

YESNO = ("lot", ("no", "yes"))
TWO = ("two", (("a", YESNO), ("b", YESNO)), ("p", "q"), (
    (("p",), ("op", "not", ("a",))), (("q",), ("op", "not", ("b",)))))
LATER = ("late", (("a", YESNO),), ("h", "m"), (
    (("h",), ("held", YESNO, "no", "a", "a")), (("m",), ("op", "and", ("a", "h")))))
BOTH = Program((TWO, LATER))
ADDS = Program([("adds", (("step", ("count", 4)),), ("m",), (
    (("n",), ("held", ("count", 4), 0, "m", "step")), (("m",), ("op", "plus", ("n", "step")))))])
LATE = (((("do", "step"), ("get", "n", 1), ("do", "m"), ("put", "m", 1), ("close",)),
         (("get", "m", 0), ("do", "n"), ("put", "n", 0), ("close",))), (("n", 1, 0, 0, 1), ("m", 0, 1, 1, 2)))
LOCKED = (LATE[0], (LATE[1][0], ("m", 0, 1, 0, 1)))
BIT = ("lot", ("no", "yes"))
FLIP = Program([("flip", (("b", BIT),), ("m",), (
    (("n",), ("held", ("count", 2), 0, "m", "b")), (("m",), ("table", ("count", 2), (0, 1, 1, 0), ("n", "b")))))])
ODD = Program([("odd", (("b", BIT),), ("z",), (
    (("x",), ("when", "b", "b", "yes")), (("z",), ("op", "and", ("x", "b")))))])
SAME = Program([("same", (("b", BIT),), ("m",), ((("m",), ("table", ("count", 2), (0, 1), ("b",))),))])
COUNT = ("main", (("step", ("count", 4)),), ("m",), (
    (("n",), ("held", ("count", 4), 0, "m", "step")), (("m",), ("op", "plus", ("n", "step")))))
LESS = ("main", (("step", ("count", 4)),), ("m",), (
    (("n",), ("held", ("count", 4), 1, "m", "step")), (("m",), ("op", "plus", ("n", "step")))))


class TestLastExamples(Case):
    """tickworks.users and Stages 8 to 10"""

    def test_what_is_listed_is_defined_where_it_is_listed(self):
        for file, listed in LISTED.items():
            module = importlib.import_module("tickworks." + file)
            for name, (many, cap) in listed.items():
                found = getattr(module, name)
                self.assertEqual(found.__module__, "tickworks." + file)
                parameters = list(inspect.signature(found).parameters.values())
                behind = [one for one in parameters if one.kind == one.KEYWORD_ONLY]
                self.assertEqual(len(parameters) - len(behind), many)
                self.assertEqual([(one.name, one.default) for one in behind], [] if cap is None else [(cap, 400)])
        for name in PLANT:
            self.assertIn(name, vars(Plant))

    def test_users(self):
        self.exact([serves(BOTH, "two", (("p",), ("q",)))[0], serves(BOTH, "two", (("p", "q"),))[0],
                    judge_user(BOTH, "two", (("p", "q"),), serves(BOTH, "two", (("p", "q"),)))],
                   ["serves", "user", None])
        loop = ("loop", (("x", YESNO),), ("u", "v"), ((("u", "v"), ("call", "two", ("x", "u"), None)),))
        user = Program((TWO, loop))
        self.exact([user_order(user, "two", (("p",), ("q",)), user), user_order(user, "two", (("p", "q"),), user)[0]],
                   [("order", ((("u", "v"), 0), "u", (("u", "v"), 1), "v")), "ring"])

    def test_plans(self):
        self.exact([wants(ADDS, "m"), wants(ADDS, "n"), moved_by(ADDS, "n")], [("n", "step"), (), ("m",)])
        halves = planned(ADDS, [0, 1, 0])
        self.exact(halves[0][0], (("do", "step"), ("get", "n", 1), ("do", "m"), ("put", "m", 1), ("close",)))
        self.exact(halves[0][1], (("do", "n"), ("put", "n", 0), ("get", "m", 0), ("close",)))
        self.exact([halves[1], judge_plan(ADDS, halves)], [(("n", 1, 0, 0, 1), ("m", 0, 1, 0, 1)), None])
        self.exact([judge_plan(ADDS, LATE), judge_plan(ADDS, (LATE[0], LATE[1][:1])),
                    judge_plan(ADDS, (LATE[0][:1], ()))], [None, ("loose", 0, 3), ("form",)])

    def test_arcs(self):
        halves = planned(ADDS, [0, 1, 0])
        self.exact([len(arcs(halves)), flows(halves)[0], groups(halves), stops(halves)],
                   [13, "goes", ((0, 1),), (None, None)])
        self.exact([flows(LOCKED)[0], stops(LOCKED), judge_flow(LOCKED, flows(LOCKED))], ["ring", (1, 0), None])
        self.exact([fills(LATE, 0)[0], fills(LATE, 1)[0], judge_fill(LATE, 1, fills(LATE, 1)),
                    judge_fill(LATE, 1, (2, ((0, 3), (1, 0)), ()))], [1, 1, None, ("holds",)])

    def test_schedules(self):
        halves = planned(ADDS, [0, 1, 0])
        self.exact(run_plan(ADDS, halves, [(1,), (1,), (3,)], steady(halves, 3)), ({"m": [1, 2, 1]}, (15, 12)))
        self.exact([run_plan(ADDS, LATE, [(1,), (1,)], [0, 0, 1, 1, 1, 0, 0]), steady(LOCKED, 1)],
                   [({"m": [1]}, (3, 3)), None])

    def test_lots(self):
        self.exact([input_rows(FLIP), closed_lot(FLIP), judge_closed(FLIP, ((0,),)), judge_closed(FLIP, ((1,), (0,)))],
                   [[("no",), ("yes",)], ("closed", ((0,), (1,))), ("open", 0, ("yes",)), None])
        self.exact([wish_kept(FLIP, "m", [0]), wish_kept(FLIP, "m", [1, 0])],
                   [("broken", (("yes",),)), ("kept", ((0,), (1,)))])
        self.exact([closed_lot(ODD), judge_bad(ODD, ("run", (("no",),), ("clash", ("z",)))), judge_closed(ODD, ((),))],
                   [("run", (("no",),), ("clash", ("z",))), True, ("tick", 0, ("no",))])

    def test_alike(self):
        self.exact([alike(FLIP, FLIP), alike(FLIP, SAME), judge_parts(FLIP, SAME, (("yes",), ("no",))),
                    judge_alike(FLIP, SAME, (((0,), ()),))],
                   [("alike", (((0,), (0,)), ((1,), (1,)))), ("parts", (("yes",), ("no",))), True,
                    ("open", 0, ("yes",))])

    def test_tables(self):
        table = table_of(FLIP)
        self.exact([table, table_of(ODD)], [
            ((("good", (0,), 0), ("good", (1,), 1)), (("good", (1,), 1), ("good", (0,), 0))),
            ((("clash",), ("good", ("yes",), 0)),)])
        self.exact([run_table(table, [1, 1]), least_table(table) == table, tables_parted(table, table_of(SAME))],
                   [[("good", (1,), 1), ("good", (0,), 0)], True, (1, 0)])
        self.exact(alike(as_program(table, (("b", BIT),), (("m", ("count", 2)),)), FLIP)[0], "alike")

    def test_plant(self):
        plant = Plant([COUNT])
        numbers = tried(plant, [("tick", (1,)), ("tick", (2,)), ("renew",)])
        self.exact([numbers, plant.now()[1:], plant.moment(2)[1:], story(plant, 3)],
                   [[1, 2, 3], ((0,), None), ((3,), (3,)), [(1,), (3,)]])
        self.exact([would_part(plant, [("swap", LESS)])[0], right_from(plant, [LESS])], ["alike", [0, 1, 2, 3]])
        self.exact([would_part(plant, [("tick", (1,))]), replayed(plant, 3, Program([LESS]))],
                   [("parts", [(0,)]), [(2,), (0,)]])
        back = plant.undo()
        self.exact([back, plant.now()[1], elders(plant, 2), goes_alike(Program([COUNT]), (0,), Program([LESS]), (1,))],
                   [2, (3,), [0, 1, 2], ("parts", [(0,)])])
