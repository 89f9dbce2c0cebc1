"""Orders, rings, and swift programs: [5.2] to [5.4]; what rounds settle: [5.5]."""

import random

from cases import Case, NOTHINGS
from drawn import swift_programs
from samples import (
    ALL, CROSSED, HALVES, LOOP, NESTED, PART, PROGRAMS, RING, SOMETIMES, SUM, THREE, TURNS, TWICE, TWO, WORST,
    YES_NO,
)
from test_rounds import BAD_INPUTS, BAD_STATES, INPUTS, MIXED, STATE, some_ticks
from tickworks.errors import BadInputs, BadState, Ring, Unclocked
from tickworks.clocks import clocks
from tickworks.items import asks, items
from tickworks.nodes import Program
from tickworks.orders import is_swift, judge_order, judge_ring, order_of, settled, why_not
from tickworks.rounds import rounds

# Two rings of values, and one in which a stream waits for itself.
RINGS = ("rings", (("s", THREE),), ("o",), (
    (("o",), ("op", "plus", ("s", "d"))),
    (("a",), ("op", "plus", ("s", "b"))),
    (("b",), ("op", "plus", ("s", "a"))),
    (("c",), ("op", "plus", ("s", "c"))),
    (("d",), ("op", "plus", ("s", "c"))),
))
# Whether w is there depends on its own value.
DEEP = ("deep", (("s", THREE),), ("o",), (
    (("o",), ("op", "plus", ("s", "s"))),
    (("w",), ("when", "s", "x", "yes")),
    (("x",), ("op", "not", ("y",))),
    (("y",), ("op", "same", ("w", "w"))),
))


def order_by_words(program):
    """What order_of tells, by the words of [5.2]."""
    order = items(program)
    asked = {item: asks(program, item) for item in order}
    taken = []
    while len(taken) < len(order):
        free = [item for item in order if item not in taken and set(asked[item]) <= set(taken)]
        if not free:
            way = [[item for item in order if item not in taken][0]]
            while way[-1] not in way[:-1]:
                way.append([item for item in asked[way[-1]] if item not in taken][0])
            return ("ring", tuple(way[way.index(way[-1]):-1]))
        taken.append(free[0])
    return ("order", tuple(taken))


class TestTold(Case):
    """order_of"""

    def test_orders(self):
        self.exact(order_of(Program([SUM])), ("order", tuple(items(Program([SUM])))))
        self.exact(order_of(Program([HALVES])), ("order", (
            ("s", "there"), ("s", "told"), ("b", "there"), ("b", "told"), ("x", "there"), ("x", "told"), ("y", "there"),
            ("y", "told"), ("z", "there"), ("z", "told"))))
        back = ("back", (("s", THREE),), ("a",), (
            (("a",), ("op", "plus", ("s", "b"))), (("b",), ("op", "plus", ("c", "s"))),
            (("c",), ("op", "plus", ("s", "s")))))
        self.exact(order_of(Program([back])), ("order", (
            ("s", "there"), ("s", "told"), ("a", "there"), ("c", "there"), ("b", "there"), ("c", "told"), ("b", "told"),
            ("a", "told"))))

    def test_rings(self):
        self.exact(order_of(Program([RINGS])), ("ring", (("c", "told"),)))
        self.exact(order_of(Program([("rings", RINGS[1], ("o",), RINGS[3][1:] + (
            (("o",), ("op", "plus", ("s", "s"))),))])), ("ring", (("a", "told"), ("b", "told"))))
        self.exact(order_of(Program([DEEP])), ("ring", (
            ("w", "there"), ("x", "told"), ("x", "there"), ("y", "there"))))
        self.exact(order_of(Program([RING])), ("ring", (("n", "there"), ("one", "there"), ("m", "there"))))
        self.exact(order_of(Program([WORST])), ("ring", (("r", "there"),)))
        self.exact(order_of(Program([LOOP])), ("ring", (("a", "told"), ("b", "told"))))

    def test_against_the_words(self):
        programs = [Program(nodes) for nodes in [*PROGRAMS.values(), [RINGS], [DEEP]]]
        for made in programs + swift_programs(31, 60) + swift_programs(32, 60, True):
            found = order_of(made)
            self.exact(found, order_by_words(made))
            word, value = found
            judges = {"order": judge_order, "ring": judge_ring}
            self.exact(judges[word](made, value), None)
            self.assertIsNotNone(judges["ring" if word == "order" else "order"](made, value))


class TestJudged(Case):
    """judge_order, judge_ring"""

    def test_forms(self):
        made, ring = Program([SUM]), Program([LOOP])
        for value in [*NOTHINGS, list(order_of(made)[1]), dict.fromkeys(items(made)), [()]]:
            if not isinstance(value, tuple):
                self.exact(judge_order(made, value), ("form",))
                self.exact(judge_ring(ring, value), ("form",))
        self.exact(judge_ring(ring, ()), ("form",))
        self.exact(judge_order(made, ()), ("lacks", ("step", "there")))

    def test_orders(self):
        made = Program([HALVES])
        order = order_of(made)[1]
        self.exact(judge_order(made, order), None)
        for number, item in enumerate(order):
            for other in [*NOTHINGS, list(item), (item,), ("q", "told"), (item[0], "absent"), (*item, 1)]:
                value = order[:number] + (other,) + order[number + 1:]
                self.exact(judge_order(made, value), ("item", number))
                self.exact(judge_order(made, value + (other, None)), ("item", number))
            for place in range(number + 1, len(order) + 1):
                self.exact(judge_order(made, order[:place] + (item,) + order[place:]), ("item", place))
            lacking = order[:number] + order[number + 1:]
            asking = [place for place, other in enumerate(lacking) if item in asks(made, other)]
            self.exact(judge_order(made, lacking), ("item", asking[0]) if asking else ("lacks", item))
            self.exact(judge_order(made, order[:number]), ("lacks", item))
        self.exact(judge_order(made, order[:2] + order[:1]), ("item", 2))

    def test_orders_of_every_sequence(self):
        chance = random.Random(3)
        for made in swift_programs(33, 30):
            asked = {item: set(asks(made, item)) for item in items(made)}
            for _ in range(12):
                value = list(order_of(made)[1])
                for _ in range(chance.randint(1, 3)):
                    one, other = chance.randrange(len(value)), chance.randrange(len(value))
                    value[one], value[other] = value[other], value[one]
                wrong = [k for k, item in enumerate(value) if not asked[item] <= set(value[:k])]
                self.exact(judge_order(made, tuple(value)), ("item", wrong[0]) if wrong else None)
            self.exact(judge_order(made, tuple(order_of(made)[1][:-1])), ("lacks", order_of(made)[1][-1]))

    def test_no_order_of_a_program_with_a_ring(self):
        made = Program([LOOP])
        order = tuple(items(made))
        self.exact(judge_order(made, order), ("item", 3))
        free = (("s", "there"), ("s", "told"), ("a", "there"), ("b", "there"), ("c", "there"), ("c", "told"))
        self.exact(judge_order(made, free), ("lacks", ("a", "told")))
        self.exact(judge_order(made, free + (("b", "told"),)), ("item", 6))

    def test_rings(self):
        made = Program([RINGS])
        a, b, c, d, o = [(stream, "told") for stream in "abcdo"]
        s = ("s", "told")
        for value, want in [
            ((a, b), None), ((b, a), None), ((c,), None), ((a,), ("ask", 0)), ((a, b, a), ("item", 2)),
            ((c, c), ("item", 1)), ((a, c), ("ask", 0)), ((d, c), ("ask", 1)), ((c, d), ("ask", 0)),
            ((o, d, c), ("ask", 2)), ((a, b, c), ("ask", 1)), ((a, s), ("ask", 1)), ((s,), ("ask", 0)),
            ((a, None), ("item", 1)), (([], a), ("item", 0)), ((a, b, {}), ("item", 2)), ((a, a, 0), ("item", 1)),
            ((a, list(b)), ("item", 1)), ((s, a, ("a", "")), ("item", 2)), ((("b", "there"), b), ("ask", 0)),
        ]:
            self.exact(judge_ring(made, value), want)
        for value in NOTHINGS:
            self.exact(judge_ring(made, (a, b, value)), ("item", 2))
        self.exact(judge_ring(Program([SUM]), (("n", "told"), ("m", "told"))), ("ask", 0))
        made = Program([DEEP])
        ring = order_of(made)[1]
        for turn in range(4):
            self.exact(judge_ring(made, ring[turn:] + ring[:turn]), None)
            lacking = ring[turn + 1:] + ring[:turn]
            self.exact(judge_ring(made, lacking), ("ask", 2))
            self.exact(judge_ring(made, ring[turn:] + ring[:turn][::-1]), None if turn < 2 else ("ask", 3 - turn))


class TestSwift(Case):
    """is_swift, why_not"""

    RINGED = ("ringed", (("i", YES_NO),), ("o",), ((("p",), ("op", "not", ("q",))), (("q",), ("op", "not", ("p",))),
                                                    (("o",), ("op", "not", ("i",)))))
    APART = ("apart", (("i", YES_NO),), ("o",), ((("x",), ("when", "i", "i", "yes")),
                                                 (("o",), ("op", "and", ("i", "x")))))
    HIDDEN = ("hidden", (("i", YES_NO),), ("o",), ((("z",), ("op", "not", ("i",))),
                                                   (("o",), ("when", "i", "z", "yes"))))

    def test_swift_ones(self):
        for nodes in [[SUM], [SUM, TWICE], ALL, NESTED, CROSSED, [HALVES], [SOMETIMES]]:
            self.exact(why_not(Program(nodes)), None)
            self.exact(is_swift(Program(nodes)), True)

    def test_why_not(self):
        for nodes, want in [
            ([PART], ("clock", "part", "x")), ([RING], ("ring", ("n", "m", "one"))), ([TURNS], ("ring", ("k",))),
            ([LOOP], ("order", (("a", "told"), ("b", "told")))), ([WORST], ("ring", ("r", "q"))),
            ([RINGS], ("order", (("c", "told"),))), ([self.APART], ("clock", "apart", "x")),
            ([self.HIDDEN], ("clock", "hidden", "o")), ([self.RINGED], ("ring", ("p", "q"))),
            ([LOOP, self.APART, self.RINGED], ("clock", "apart", "x")),
            ([self.RINGED, self.APART], ("ring", ("p", "q"))),
            ([self.HIDDEN, SUM], ("clock", "hidden", "o")), ([SUM, self.HIDDEN, self.RINGED], ("clock", "hidden", "o")),
            ([self.RINGED, LOOP], ("ring", ("p", "q"))), ([SUM, LOOP], ("order", (("a", "told"), ("b", "told")))),
            ([LOOP, SUM], None), ([LOOP, SUM, TWICE], None),
        ]:
            self.exact(why_not(Program(nodes)), want)
            self.exact(is_swift(Program(nodes)), want is None)

    def test_it_goes_with_clocks(self):
        for nodes in PROGRAMS.values():
            made = Program(nodes)
            want = None
            for node in made.nodes():
                try:
                    clocks(made, node[0])
                except Unclocked as error:
                    want = want or ("clock", error.node, error.stream)
                except Ring as error:
                    want = want or ("ring", error.streams)
            if want is None and order_of(made)[0] == "ring":
                want = order_of(made)
                want = ("order", want[1])
            self.exact(why_not(made), want)


class TestSettled(Case):
    """settled"""

    def test_swift_programs(self):
        self.exact(settled(Program([SUM]), (3,), (2,)), [["n"], ["m"]])
        self.exact(settled(Program([SUM, TWICE]), (3,), (2,)), [["p.step"], ["p.n"], ["p.m"], ["p"]])
        self.exact(settled(Program([HALVES]), (), (3, "yes")), [["x", "y"], ["z"]])
        self.exact(settled(Program([SOMETIMES]), (2,), ("no", 1)), [["w"], ["n", "t"]])

    def test_rounds_in_which_nothing_settles(self):
        self.exact(settled(Program([LOOP]), (), (1,)), [["c"]])
        self.exact(settled(Program([RING]), (0,), (1,)), [])
        self.exact(settled(Program([PART]), (), (3, "yes")), [["x", "y"], []])
        made = Program([("n", (("i", TWO),), ("o",), (
            (("a",), ("op", "plus", ("a", "i"))), (("b",), ("op", "plus", ("a", "a"))),
            (("o",), ("op", "plus", ("i", "i"))),
            (("c",), ("op", "plus", ("b", "b"))), (("d",), ("op", "plus", ("c", "c")))))])
        self.exact(settled(made, (), (1,)), [["o"], [], [], []])
        made = Program([("n", (("i", TWO),), ("o",), (
            (("o",), ("op", "plus", ("a", "a"))), (("a",), ("op", "plus", ("b", "b"))),
            (("b",), ("op", "plus", ("i", "i")))))])
        self.exact(settled(made, (), (1,)), [["b"], ["a"], ["o"]])

    def test_by_the_rounds(self):
        for nodes in PROGRAMS.values():
            made = Program(nodes)
            for state, inputs in some_ticks(made, 8):
                fillings = rounds(made, state, inputs)
                marks = [{s for s, standing in told.items() if standing[0] in ("absent", "value")} for told in fillings]
                want = [[s for s in later if s in after and s not in ahead]
                        for later, ahead, after in zip(fillings[1:], marks, marks[1:])]
                self.exact(settled(made, state, inputs), want)

    def test_errors(self):
        self.exact(len(settled(MIXED, STATE, INPUTS)), 2)
        for state in BAD_STATES:
            self.raised(BadState, {}, settled, MIXED, state, INPUTS)
            self.raised(BadState, {}, settled, MIXED, state, None)
        for inputs in BAD_INPUTS:
            self.raised(BadInputs, {"number": 0}, settled, MIXED, STATE, inputs)

    def test_new_lists(self):
        self.fresh(settled, Program([SUM]), (3,), (2,))
        self.fresh(settled, Program([PART]), (), (3, "yes"))
