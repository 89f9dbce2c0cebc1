"""Plants: [10.1] to [10.4]."""

import random

from cases import Case, NOTHINGS, mutables
from drawn import swift_programs
from plantwords import (
    Model, drawn_move, plants_to_draw, result_of, told_by_model, told_by_plant, ways_by_model, ways_by_plant,
)
from samples import COUNTER, FOUR, HALVES, LOOP, NESTED, PART, RING, SUM, THREE, TWICE, YES_NO
from test_alike import BACKWARDS, renamed
from tickworks.errors import (
    BadDeed, BadName, BadProgram, BadValue, MixedTypes, NameMissing, NoMoment, NoPartner, NothingDone, NotSwift,
    OtherFace, Parted, TickError, TooMany, TwiceTold, UnknownName,
)
from tickworks.nodes import Program
from tickworks.nodetexts import read_program
from tickworks.plant import Plant
from tickworks.rounds import first_state
from tickworks.runs import run

LESS = ("sum", SUM[1], SUM[2], ((("n",), ("held", FOUR, 1, "m", "step")), SUM[3][1]))
# The same sums with a held beside, and with the equations the other way round.
MORE = ("sum", SUM[1], SUM[2], (SUM[3][1], SUM[3][0], (("k",), ("held", FOUR, 2, "step", "step"))))
THIRD = ("sum", SUM[1], SUM[2], ((("n",), ("held", ("count", 4), 3, "o", "step")), (("o",), ("op", "plus", ("n", "m"))),
                                 (("m",), ("op", "plus", ("step", "step")))))
# n is held of another type.
TYPED = ("sum", SUM[1], SUM[2], (
    (("n",), ("held", THREE, 2, "t", "step")), (("t",), ("table", THREE, (1, 2, 0), ("n",))),
    (("m",), ("op", "plus", ("step", "step")))))


def plant_behind(*inputs):
    """A plant of SUM behind some ticks."""
    plant = Plant([SUM])
    for value in inputs:
        plant.do(("tick", (value,)))
    return plant


class PlantCase(Case):
    """A test case with checks of plants."""

    def refused(self, plant, error, attributes, call, *args):
        """Checks that a call raises an error and changes nothing."""
        before, twin = told_by_plant(plant), plant.twin()
        raised = self.raised(error, attributes, getattr(plant, call), *args)
        self.exact(told_by_plant(plant), before)
        self.assertTrue(plant == twin)
        return raised


class TestMade(PlantCase):
    """Plant"""

    def test_moment_nothing(self):
        plant = Plant([SUM])
        self.exact(told_by_plant(plant), [
            0, "main", ["main"], [([0], 0)], [], 1, [([SUM], (0,), None)], ([SUM], (0,), None)])
        plant = Plant((SUM, TWICE))
        self.assertEqual(plant.now()[0], Program([SUM, TWICE]))
        self.assertEqual(Plant([HALVES]).now()[1:], ((), None))

    def test_errors(self):
        for nodes in NOTHINGS:
            self.raised(BadProgram, {}, Plant, nodes)
        self.raised(BadProgram, {"path": (0, 0)}, Plant, [("Sum", *SUM[1:])])
        self.raised(TwiceTold, {"name": "sum"}, Plant, [SUM, SUM])
        self.raised(UnknownName, {"name": "sum"}, Plant, [TWICE, SUM])
        self.raised(MixedTypes, {"node": "x", "stream": "a"}, Plant,
                    [("x", (("i", FOUR),), ("a",), ((("a",), ("op", "not", ("i",))),))])
        self.raised(TooMany, {}, Plant, [("x", tuple((word, FOUR) for word in "abc"), ("o",),
                                          ((("o",), ("op", "plus", ("a", "b"))),))])
        for node in [RING, PART, LOOP]:
            self.raised(NotSwift, {}, Plant, [node])
        self.raised(NotSwift, {}, Plant, [PART, SUM])
        self.assertTrue(issubclass(NotSwift, TickError))

    def test_no_list_is_kept(self):
        nodes = [SUM]
        plant = Plant(nodes)
        nodes.append(TWICE)
        self.assertEqual(plant.now()[0].nodes(), [SUM])


class TestTicks(PlantCase):
    """do: ticks and renewals"""

    def test_ticks(self):
        plant = Plant([SUM])
        self.exact([plant.do(("tick", (1,))), plant.do(("tick", (2,))), plant.do(("tick", (3,)))], [1, 2, 3])
        self.exact(told_by_plant(plant)[:6], [
            3, "main", ["main"], [([0, 1, 2, 3], 3)],
            [(0, ("tick", (1,))), (1, ("tick", (2,))), (2, ("tick", (3,)))], 4])
        self.exact([plant.moment(number)[1:] for number in range(4)],
                   [((0,), None), ((1,), (1,)), ((3,), (3,)), ((2,), (2,))])

    def test_absent_outputs(self):
        plant = Plant([HALVES])
        plant.do(("tick", (3, "no")))
        self.exact(plant.now()[1:], ((), (None, 3)))

    def test_bad_values(self):
        plant = Plant([("n", (("p", ("pair", YES_NO, ("count", 2))), ("b", YES_NO)), ("o",),
                        ((("o",), ("op", "not", ("b",))),))])
        for inputs, path in [(("yes", "no"), (0,)), ((("yes", 2), "no"), (0, 1)), ((("yes", True), "no"), (0, 1)),
                             (((1, 1), 1), (0, 0)), ((("no", 1), 1), (1,)), ((("no", 1),), ()), ((), ()), (None, ()),
                             ((("no", 1), "no", "no"), ()), ([("no", 1), "no"], ()), (("no", 1), (0,)),
                             ((["no", 1], "no"), (0,)), ((("no", 1), ["no"]), (1,)), ("ab", ()), ({}, ())]:
            self.refused(plant, BadValue, {"path": path}, "do", ("tick", inputs))
        plant.do(("tick", (("no", 1), "no")))
        self.exact(plant.now()[1:], ((), ("yes",)))

    def test_renewals(self):
        plant = plant_behind(1, 2)
        self.exact(plant.do(("renew",)), 3)
        self.exact(plant.now()[1:], ((0,), None))
        self.exact(plant.log()[-1], (2, ("renew",)))
        plant.do(("swap", LESS))
        plant.do(("tick", (1,)))
        plant.do(("renew",))
        self.exact(plant.now()[1:], ((1,), None))


class TestBadDeeds(PlantCase):
    """do: what is no deed"""

    def test_bad_deeds(self):
        plant = plant_behind(1)
        for deed in [*NOTHINGS, ("tick",), ("tick", (1,), 1), ("renew", None), ("renew", ()), ("swap",), ("take",),
                     ("swap", SUM, 1), ("take", [SUM], []), ("undo",), ("undo", 1), ["tick", (1,)], ["renew"], "renew",
                     "tick", (["renew"],), (("renew",),), (None,), (True, (1,)), ((1,), "tick"), ("Renew",),
                     ("branch", "a"), {"renew": 1}, ({"tick": 1}, (1,)), (b"renew",), ("", ()), (SUM,), (plant, 1),
                     (Program([SUM]),)]:
            self.refused(plant, BadDeed, {}, "do", deed)

    def test_which_comes_first(self):
        full = Plant([SUM])
        for _ in range(199):
            full.do(("renew",))
        self.exact([len(full), full.present()], [200, 199])
        for plant in [Plant([SUM]), full]:
            self.refused(plant, BadDeed, {}, "do", ("tick", None, None))
            self.refused(plant, BadValue, {"path": ()}, "do", ("tick", None))
            self.refused(plant, BadProgram, {"path": (0,)}, "do", ("swap", None))
            self.refused(plant, UnknownName, {"name": "other"}, "do", ("swap", ("other", *RING[1:])))
            self.refused(plant, NotSwift, {}, "do", ("swap", ("sum", *RING[1:])))
            self.refused(plant, NotSwift, {}, "do", ("swap", ("sum", *PART[1:])))
            self.refused(plant, OtherFace, {}, "do", ("swap", ("sum", *HALVES[1:])))
            self.refused(plant, BadProgram, {"path": ()}, "do", ("take", None))
            self.refused(plant, NotSwift, {}, "do", ("take", [PART]))
            self.refused(plant, OtherFace, {}, "do", ("take", [HALVES]))
            self.refused(plant, Parted, {"inputs": ((0,),)}, "do", ("take", [LESS]))
        for deed in [("tick", (1,)), ("swap", LESS), ("take", [SUM]), ("renew",)]:
            self.refused(full, TooMany, {}, "do", deed)

    def test_two_hundred_moments(self):
        plant = Plant([SUM])
        for number in range(1, 200):
            self.exact(plant.do(("tick", (1,))), number)
        self.refused(plant, TooMany, {}, "do", ("tick", (1,)))
        for _ in range(150):
            plant.undo()
        self.refused(plant, TooMany, {}, "do", ("tick", (1,)))
        self.refused(plant, BadValue, {"path": (0,)}, "do", ("tick", (4,)))
        self.exact([len(plant), plant.present(), len(plant.trail("main"))], [200, 49, 200])


class TestSwaps(PlantCase):
    """do: swaps"""

    def test_led_states(self):
        plant = plant_behind(1, 2)
        self.exact(plant.do(("swap", LESS)), 3)
        self.exact([plant.now()[0].nodes(), plant.now()[1:]], [[LESS], ((3,), None)])
        plant.do(("swap", MORE))
        self.exact(plant.now()[1:], ((3, 2), None))
        plant.do(("tick", (1,)))
        self.exact(plant.now()[1:], ((0, 1), (0,)))
        plant.do(("swap", TYPED))
        self.exact(plant.now()[1:], ((2,), None))
        plant.do(("swap", MORE))
        self.exact(plant.now()[1:], ((0, 2), None))

    def test_led_by_name_and_type(self):
        plant = Plant(NESTED)
        for value in [1, 2, 3]:
            plant.do(("tick", (value, "red")))
        program, state, _ = plant.now()
        self.assertNotEqual(state, first_state(program))
        # Another name for the counter's held; the others keep their memories.
        other = ("counter", COUNTER[1], ("n",), (
            (("n",), ("held", FOUR, 1, "m", "up")), (("h",), ("held", FOUR, 3, "up", "up")),
            (("m",), ("op", "plus", ("n", "up")))))
        plant.do(("swap", other))
        changed, led, told = plant.now()
        self.assertEqual(changed.nodes(), [other, *NESTED[1:]])
        self.exact(told, None)
        names = [stream for stream, right, _ in program.written_rows() if right[0] == "held"]
        more = [stream for stream, right, _ in changed.written_rows() if right[0] == "held"]
        for held, memory in zip(more, led):
            self.exact(memory, state[names.index(held)] if held in names else 3)

    def test_errors(self):
        plant = Plant([SUM, TWICE])
        for node, path in [(None, (0,)), ((), (0,)), (("Sum", *SUM[1:]), (0, 0)), (list(SUM), (0,)),
                           ((*SUM[:2], (), SUM[3]), (0, 2)), ((*SUM[:3], ()), (0, 3)), ([SUM], (0,)), (SUM[:3], (0,)),
                           ((*SUM[:3], ((("m",), ("op", "plus", ("step", True))),)), (0, 3, 0, 1, 2, 1))]:
            self.refused(plant, BadProgram, {"path": path}, "do", ("swap", node))
        self.refused(plant, UnknownName, {"name": "summ"}, "do", ("swap", ("summ", *SUM[1:])))
        self.refused(plant, UnknownName, {"name": "q"}, "do", ("swap", ("sum", SUM[1], ("q",), SUM[3])))
        self.refused(plant, TwiceTold, {"name": "m"}, "do", ("swap", ("sum", SUM[1], ("m", "m"), SUM[3])))
        self.refused(plant, MixedTypes, {"node": "two", "stream": "p"}, "do",
                     ("swap", ("sum", SUM[1], ("m", "n"), SUM[3])))
        self.refused(plant, UnknownName, {"name": "two"}, "do", ("swap", ("sum", *TWICE[1:2], ("p",), (
            (("p",), ("call", "two", ("s",), None)),))))
        self.refused(plant, NotSwift, {}, "do", ("swap", ("sum", *RING[1:])))
        self.refused(plant, OtherFace, {}, "do", ("swap", ("two", (("t", FOUR),), ("p",), (
            (("p",), ("call", "sum", ("t",), None)),))))
        # The face is main's alone: another node's may be another one, where the calls go with it.
        self.exact(plant.do(("swap", ("sum", (("by", FOUR),), ("m",), ((("m",), ("op", "plus", ("by", "by"))),)))), 1)

    def test_one_error_ahead_of_another(self):
        plant = Plant([SUM])
        self.refused(plant, BadProgram, {"path": (0, 3, 0, 1, 2)}, "do",
                     ("swap", ("x", SUM[1], ("m",), ((("m",), ("op", "plus", ("q",))),))))
        self.refused(plant, UnknownName, {"name": "x"}, "do",
                     ("swap", ("x", SUM[1], ("m", "m"), ((("m",), ("op", "plus", ("q", "q"))),))))
        self.refused(plant, TwiceTold, {"name": "m"}, "do",
                     ("swap", ("sum", SUM[1], ("m", "m"), ((("m",), ("op", "plus", ("q", "q"))),))))

    def test_too_many_streams(self):
        plant = Plant([("a", (("i", YES_NO),), ("o",), ((("o",), ("op", "not", ("i",))),)),
                       ("b", (("i", YES_NO),), ("o", "p", "q", "r"), tuple(
                           ((word,), ("call", "a", ("i",), None)) for word in "opqr"))])
        wide = ("a", (("i", YES_NO),), ("o",), ((("o",), ("op", "not", ("i",))),) + tuple(
            ((word,), ("op", "not", ("i",))) for word in "uvwxy"))
        self.refused(plant, TooMany, {}, "do", ("swap", wide))
        self.exact(plant.do(("swap", (*wide[:3], wide[3][:3]))), 1)


class TestTakes(PlantCase):
    """do: takes"""

    def test_taken(self):
        plant = plant_behind(1, 2)
        self.exact(plant.do(("take", BACKWARDS.nodes())), 3)
        self.exact([plant.now()[0].nodes(), plant.now()[1:]], [BACKWARDS.nodes(), ((0,), None)])
        self.exact(plant.log()[-1], (2, ("take", tuple(BACKWARDS.nodes()))))
        plant.do(("tick", (1,)))
        self.exact(plant.now()[1:], ((3,), (0,)))
        self.exact(plant.do(("take", (SUM,))), 5)
        self.exact(plant.now()[1:], ((0,), None))
        plant.do(("take", [MORE]))
        self.exact(plant.now()[1:], ((0, 2), None))
        plant.do(("take", [("other", *MORE[1:])]))
        self.exact(plant.now()[0].main()[0], "other")

    def test_the_first_pair_of_the_lot(self):
        # From n = 0 on MORE has several states with it; the first that is met is taken.
        plant = Plant([SUM])
        plant.do(("tick", (1,)))
        plant.do(("take", [MORE]))
        self.exact(plant.now()[1:], ((1, 1), None))
        plant.do(("tick", (3,)))
        plant.do(("take", [SUM]))
        self.exact(plant.now()[1:], ((0,), None))
        plant.do(("take", [MORE]))
        self.exact(plant.now()[1:], ((0, 2), None))

    def test_no_partner(self):
        up = read_program("""node up
in b lot(no,yes)
out m
n = held count(3) 0 u b
u = table count(3) 0 1 0 1 0 1 : n b
m = table lot(no,yes) no yes yes : n
""")
        other = read_program("""node up
in b lot(no,yes)
out m
n = held count(3) 2 u b
u = table count(3) 0 1 0 1 2 2 : n b
m = table lot(no,yes) no yes yes : n
""")
        plant = Plant(up.nodes())
        plant.do(("tick", ("yes",)))
        plant.do(("swap", other.nodes()[0]))
        plant.do(("renew",))
        self.exact(plant.now()[1], (2,))
        plant.do(("swap", up.nodes()[0]))
        self.exact(plant.now()[1], (2,))
        # No run of it from its first state on comes to the state 2.
        self.refused(plant, NoPartner, {}, "do", ("take", up.nodes()))
        plant.do(("tick", ("no",)))
        self.exact(plant.do(("take", up.nodes())), 6)

    def test_errors(self):
        plant = plant_behind(3)
        for nodes in NOTHINGS:
            self.refused(plant, BadProgram, {"path": ()}, "do", ("take", nodes)) if not (
                isinstance(nodes, (list, tuple)) and 1 <= len(nodes) <= 4) else self.refused(
                plant, BadProgram, {"path": (0,)}, "do", ("take", nodes))
        self.refused(plant, BadProgram, {"path": ()}, "do", ("take", SUM[0]))
        self.refused(plant, BadProgram, {"path": (0,)}, "do", ("take", SUM))
        self.refused(plant, TwiceTold, {"name": "sum"}, "do", ("take", [SUM, SUM]))
        for node in [RING, PART, LOOP]:
            self.refused(plant, NotSwift, {}, "do", ("take", [node]))
        for nodes in [[HALVES], [SUM, TWICE], [SUM, HALVES], [("sum", (("by", FOUR),), ("m",), (
                (("m",), ("op", "plus", ("by", "by"))),))]]:
            self.refused(plant, OtherFace, {}, "do", ("take", nodes))
        self.refused(plant, NotSwift, {}, "do", ("take", [PART, SUM]))
        error = self.refused(plant, Parted, {"inputs": ((1,),)}, "do", ("take", [THIRD]))
        self.assertFalse(mutables(error.inputs))
        self.refused(plant, Parted, {"inputs": ((0,),)}, "do", ("take", [LESS]))

    def test_too_many_pairs(self):
        def around(many):
            kind = ("pair", FOUR, ("count", 6))
            results = tuple(((n + 1) % many // 6, (n + 1) % many % 6) if n < many else (0, 0) for n in range(24))
            return ("n", (("b", YES_NO),), ("o",), (
                (("p",), ("held", kind, (0, 0), "q", "b")), (("q",), ("table", kind, results, ("p",))),
                (("o",), ("op", "same", ("p", "p")))))
        # The pairs are as many as the ticks till both begin again.
        self.exact(Plant([around(24)]).do(("take", [around(16)])), 1)
        self.exact(Plant([around(20)]).do(("take", [around(19)])), 1)
        self.exact(Plant([around(23)]).do(("take", [around(17)])), 1)
        self.refused(Plant([around(23)]), TooMany, {}, "do", ("take", [around(18)]))

    def test_no_list_is_kept(self):
        plant = Plant([SUM])
        nodes = [HALVES, SUM]
        plant.do(("take", nodes))
        nodes.clear()
        self.exact(plant.log(), [(0, ("take", (HALVES, SUM)))])
        self.exact(plant.now()[0].nodes(), [HALVES, SUM])


class TestTrails(PlantCase):
    """undo, redo, branch, go, and what tells of them"""

    def test_undo_and_redo(self):
        plant = plant_behind(1, 2, 3)
        self.refused(plant, NothingDone, {}, "redo")
        self.exact([plant.undo(), plant.undo(), plant.redo(), plant.undo(), plant.undo()], [2, 1, 2, 1, 0])
        self.refused(plant, NothingDone, {}, "undo")
        self.exact([plant.trail("main"), plant.mark("main"), plant.present()], [[0, 1, 2, 3], 0, 0])
        self.exact([plant.redo(), plant.redo(), plant.redo()], [1, 2, 3])
        self.refused(plant, NothingDone, {}, "redo")

    def test_a_new_deed_cuts_the_trail(self):
        plant = plant_behind(1, 2, 3)
        plant.undo()
        plant.undo()
        self.exact(plant.do(("renew",)), 4)
        self.exact([plant.trail("main"), plant.mark("main"), plant.log()[-1]], [[0, 1, 4], 2, (1, ("renew",))])
        self.refused(plant, NothingDone, {}, "redo")
        self.exact([plant.undo(), plant.redo(), len(plant)], [1, 4, 5])
        # No moment goes away.
        self.exact(plant.moment(3)[1:], ((2,), (2,)))

    def test_branches(self):
        plant = plant_behind(1, 2)
        self.exact(plant.branch("side"), None)
        self.exact([plant.here(), plant.present(), plant.branches()], ["main", 2, ["main", "side"]])
        self.exact([plant.trail("side"), plant.mark("side")], [[2], 0])
        plant.undo()
        plant.branch("low")
        self.exact(plant.trail("low"), [1])
        self.exact(plant.go("side"), 2)
        self.exact([plant.here(), plant.present(), plant.trail("main"), plant.mark("main")], ["side", 2, [0, 1, 2], 1])
        self.refused(plant, NothingDone, {}, "undo")
        self.refused(plant, NothingDone, {}, "redo")
        self.exact(plant.do(("tick", (1,))), 3)
        self.exact([plant.trail("side"), plant.trail("main"), plant.go("main"), plant.go("low")],
                   [[2, 3], [0, 1, 2], 1, 1])
        self.exact([plant.do(("renew",)), plant.log()[-1], plant.go("side"), plant.go("side")],
                   [4, (1, ("renew",)), 3, 3])
        self.exact([plant.undo(), plant.redo()], [2, 3])

    def test_six_branches(self):
        plant = plant_behind(1)
        for name in ["a", "abcdefgh", "undo", "zz", "b"]:
            plant.branch(name)
        self.exact(plant.branches(), ["main", "a", "abcdefgh", "undo", "zz", "b"])
        self.refused(plant, TooMany, {}, "branch", "c")
        self.refused(plant, BadName, {"name": "a"}, "branch", "a")
        self.refused(plant, BadName, {"name": "C"}, "branch", "C")

    def test_names(self):
        plant = plant_behind(1)
        for name in [*NOTHINGS, "main", "Main", "a1", "a b", "abcdefghi", "-", ["a"], ("a",), {"a": 1}, b"a"]:
            if name not in ("", "abcdefghi") or not isinstance(name, str):
                self.apart(self.refused(plant, BadName, {"name": name}, "branch", name), name)
        for name in ["", "abcdefghi"]:
            self.refused(plant, BadName, {"name": name}, "branch", name)
        for name in [*NOTHINGS, "side", "Main", ["main"], ("main",), {"main": 1}]:
            for call in ["go", "trail", "mark"]:
                self.apart(self.refused(plant, UnknownName, {"name": name}, call, name), name)
        self.assertTrue(issubclass(UnknownName, NameMissing))

    def test_moments(self):
        plant = plant_behind(1, 2)
        for number in [*NOTHINGS, 3, -1, True, False, "0", (0,), [0], {0: 0}]:
            if number is True or number is False or number not in (0, 1):
                self.apart(self.refused(plant, NoMoment, {"number": number}, "moment", number), number)
        self.exact([plant.moment(0)[1:], plant.moment(2)[1:]], [((0,), None), ((3,), (3,))])
        self.assertTrue(plant.now() == plant.moment(2))
        self.assertIsInstance(plant.now(), tuple)

    def test_new_lists(self):
        plant = plant_behind(1, 2)
        plant.branch("a")
        for call in [plant.log, plant.branches]:
            self.fresh(call)
        self.fresh(plant.trail, "main")


class TestEqual(PlantCase):
    """==, len, twin"""

    def test_equal_plants(self):
        def walk(plant):
            plant.do(("tick", (1,)))
            plant.do(("swap", LESS))
            plant.branch("a")
            plant.undo()
            plant.go("a")
            return plant
        one, other = walk(Plant([SUM])), walk(Plant((SUM,)))
        self.assertTrue(one == other)
        self.assertFalse(one != other)
        self.exact(len(one), 3)

    def test_one_thing_alone_is_different(self):
        base = plant_behind(1, 2)
        base.branch("a")
        for change in [lambda plant: plant.undo(), lambda plant: plant.go("a"), lambda plant: plant.branch("b"),
                       lambda plant: plant.do(("renew",)), lambda plant: (plant.do(("renew",)), plant.undo())]:
            plant = base.twin()
            self.assertTrue(plant == base and base == plant)
            change(plant)
            self.assertFalse(plant == base or base == plant)
        # As long a log, but another deed; as many branches, but other ones, or in another order.
        self.assertFalse(plant_behind(1, 2) == plant_behind(1, 3))
        self.assertFalse(Plant([SUM]) == Plant([LESS]))
        self.assertFalse(Plant([SUM]) == Plant([HALVES, SUM]))
        orders = [plant_behind(1), plant_behind(1)]
        for plant, names in zip(orders, ["ab", "ba"]):
            for name in names:
                plant.branch(name)
        self.assertFalse(orders[0] == orders[1])
        # The log, trails and the rest alike, but the trail behind the place.
        one, other = plant_behind(1, 2), plant_behind(1, 2)
        one.undo()
        one.undo()
        one.branch("a")
        other.undo()
        other.undo()
        other.branch("a")
        self.assertTrue(one == other)
        one.go("a")
        one.go("main")
        self.assertTrue(one == other)

    def test_to_nothing_else(self):
        plant = Plant([SUM])
        for value in [*NOTHINGS, Program([SUM]), [SUM], plant.log(), plant.now(), plant.record]:
            self.assertFalse(plant == value)
            self.assertTrue(plant != value)

    def test_takes_of_tuples_and_lists(self):
        one, other = Plant([SUM]), Plant([SUM])
        one.do(("take", [SUM]))
        other.do(("take", (SUM,)))
        self.assertTrue(one == other)

    def test_twins(self):
        plant = plant_behind(1, 2)
        plant.branch("a")
        plant.undo()
        twin = plant.twin()
        self.exact(told_by_plant(twin), told_by_plant(plant))
        before = told_by_plant(plant)
        twin.do(("swap", LESS))
        twin.branch("b")
        twin.go("b")
        self.exact(told_by_plant(plant), before)
        after = told_by_plant(twin)
        plant.redo()
        plant.do(("renew",))
        plant.go("a")
        self.exact(told_by_plant(twin), after)
        self.assertFalse(plant == twin)
        self.exact([twin.twin() == twin, len(twin), len(plant)], [True, 4, 4])


class TestDrawn(PlantCase):
    """Drawn plants against a model, and their ticks against runs"""

    def test_drawn_plants(self):
        chance = random.Random(430)
        others = swift_programs(431, 5)
        refused = {}
        for made in plants_to_draw(432, 45):
            plant, model = Plant(made.nodes()), Model(made.nodes())
            for _ in range(40):
                name, args = drawn_move(model, chance, others)
                before = told_by_plant(plant)
                got = result_of(getattr(plant, name), *args)
                self.exact(got, result_of(getattr(model, name), *args))
                if got[0] == "raised":
                    refused[got[1]] = refused.get(got[1], 0) + 1
                    self.exact(told_by_plant(plant), before)
            self.exact(told_by_plant(plant), told_by_model(model))
            for number in range(len(plant)):
                self.exact(ways_by_plant(plant, number), ways_by_model(model, number))
        for error in ["BadDeed", "BadValue", "BadProgram", "UnknownName", "OtherFace", "Parted", "NothingDone",
                      "BadName"]:
            self.assertGreater(refused.get(error, 0), 2, error)

    def test_ticks_are_a_run(self):
        chance = random.Random(433)
        for made in plants_to_draw(434, 20):
            plant, inputs, told = Plant(made.nodes()), [], []
            for _ in range(8):
                rows = [row for row in [drawn_move(Model(made.nodes()), chance, [made])[1] for _ in range(10)]
                        if row and isinstance(row[0], tuple) and row[0][:1] == ("tick",)]
                for deed, in rows[:1]:
                    if result_of(plant.do, deed)[0] == "returned":
                        inputs.append(deed[1])
                        told.append(("good", plant.now()[2], plant.now()[1]))
            self.exact(told, run(made, inputs))
            taken = plant.do(("take", renamed(made, chance).nodes()))
            self.exact(plant.now()[2], None)
            self.assertEqual(taken, len(plant) - 1)
