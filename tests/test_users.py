"""Users of nodes that are compiled alone: [7.5] to [7.7]."""

import random

from cases import Case, NOTHINGS
from drawn import MODES, drawn_ticks
from samples import FOUR, HALVES, SUM, TWO as BIT, YES_NO
from test_partings import partings_of, serves as serves_by_words
from tickworks.errors import BadParting, UnknownName
from tickworks.needs import needs, stream_asks
from tickworks.nodes import Program
from tickworks.nodetexts import read_program
from tickworks.orders import is_swift, judge_order, order_of
from tickworks.partings import (
    asked_inputs, by_outputs, calling_order, fewest, finer, joined, single_parting, whole_parting,
)
from tickworks.runs import run_from
from tickworks.types import many
from tickworks.users import judge_user, serves, user_order
from userwords import drawn_users, graph_by_words, has_ring, is_right_order, is_right_ring, small_nodes

TWO = ("two", (("a", YES_NO), ("b", YES_NO)), ("p", "q"), (
    (("p",), ("op", "not", ("a",))), (("q",), ("op", "not", ("b",)))))
SPLIT = (("p",), ("q",))
WHOLE = (("p", "q"),)
BASE = Program([TWO])


def user_of(*equations, inputs=(("x", YES_NO),), outputs=None, node=TWO):
    """A user of one node."""
    outputs = (equations[-1][0][0],) if outputs is None else outputs
    return Program([node, ("user", inputs, outputs, equations)])


ONE = user_of((("u", "v"), ("call", "two", ("x", "x"), None)))
BACK = user_of((("u", "v"), ("call", "two", ("x", "u"), None)))
CROSSED = user_of((("u", "v"), ("call", "two", ("x", "r"), None)), (("r", "s"), ("call", "two", ("v", "x"), None)))
CHAINED = user_of((("u", "v"), ("call", "two", ("x", "r"), None)), (("r", "s"), ("call", "two", ("u", "x"), None)))
CLOSED = user_of((("w",), ("when", "x", "c", "yes")), (("u", "v"), ("call", "two", ("w", "u"), ("w", "yes"))),
                 (("d",), ("op", "not", ("e",))), (("e",), ("op", "not", ("x",))), (("c",), ("op", "and", ("d", "x"))),
                 (("o",), ("held", YES_NO, "no", "x", "x")))


class TestOrdered(Case):
    """user_order"""

    def check(self, made, name, parting, user, word=None):
        """Checks an order or a ring by the words."""
        graph = graph_by_words(made, name, parting, user)
        got = self.untouched(user_order, made, name, parting, user)
        self.assertIsInstance(got, tuple)
        self.assertEqual(got[0], "ring" if has_ring(graph) else "order")
        self.assertTrue((is_right_ring if got[0] == "ring" else is_right_order)(graph, got[1]))
        if word is not None:
            self.assertEqual(got[0], word)
        return got

    def test_one_call(self):
        for parting in [SPLIT, WHOLE, SPLIT[::-1]]:
            self.check(BASE, "two", parting, ONE, "order")
        self.exact(sorted(map(str, user_order(BASE, "two", WHOLE, ONE)[1])), ["(('u', 'v'), 0)", "u", "v"])

    def test_arguments_led_back(self):
        self.check(BASE, "two", SPLIT, BACK, "order")
        _, ring = self.check(BASE, "two", WHOLE, BACK, "ring")
        self.assertEqual(set(ring), {(("u", "v"), 0), "u"})

    def test_two_calls(self):
        self.check(BASE, "two", SPLIT, CHAINED, "order")
        self.check(BASE, "two", WHOLE, CHAINED, "ring")
        _, points = self.check(BASE, "two", SPLIT, ONE, "order")
        self.assertEqual(len(points), 4)
        self.assertEqual(len(user_order(BASE, "two", SPLIT, CHAINED)[1]), 8)
        # v asks for r, and r for v: that program has a ring of its own, and no order with any parting.
        self.assertFalse(is_swift(CROSSED))
        self.check(BASE, "two", SPLIT, CROSSED, "ring")

    def test_calls_on_closed_clocks(self):
        self.assertTrue(is_swift(CLOSED))
        _, points = self.check(BASE, "two", SPLIT, CLOSED, "order")
        # The clock of the arguments has the cond c, so each function of the call stands behind it.
        for point in [(("u", "v"), 0), (("u", "v"), 1), "w", "u", "v"]:
            self.assertLess(points.index("c"), points.index(point))
        self.check(BASE, "two", WHOLE, CLOSED, "ring")

    def test_conds_on_clocks_of_outputs(self):
        made = Program([HALVES])
        node = HALVES
        main = ("user", (("s", FOUR), ("b", YES_NO)), ("x", "z", "c"), (
            (("x", "z"), ("call", "halves", ("s", "c"), None)), (("c",), ("op", "not", ("b",)))))
        user = Program([node, main])
        for parting in [single_parting(made, "halves"), whole_parting(made, "halves")]:
            _, points = self.check(made, "halves", parting, user, "order")
            for point in ["x", "z"]:
                self.assertLess(points.index("c"), points.index(point))

    def test_held_streams_ask_for_nothing(self):
        made = Program([SUM])
        main = ("user", (("x", FOUR),), ("m",), (
            (("m",), ("call", "sum", ("h",), None)), (("h",), ("held", FOUR, 0, "m", "x"))))
        self.check(made, "sum", (("n", "m"),), Program([SUM, main]), "order")

    def test_drawn_users(self):
        chance = random.Random(310)
        words = {"order": 0, "ring": 0}
        for made, name in small_nodes(311, 40) + small_nodes(312, 20, True):
            partings = list(partings_of(list(stream_asks(made, name))))
            for user in drawn_users(made, name, 313, 4):
                for parting in chance.sample(partings, min(6, len(partings))):
                    words[self.check(made, name, parting, user)[0]] += 1
        self.assertGreater(min(words.values()), 20)

    def test_errors(self):
        for name in [*NOTHINGS, "p", "user", ["two"], ("two",), {"two": 1}]:
            for parting in [SPLIT, None, []]:
                self.apart(self.raised(UnknownName, {"name": name}, user_order, BASE, name, parting, ONE), name)
                self.apart(self.raised(UnknownName, {"name": name}, serves, BASE, name, parting), name)
                for value in [None, serves(BASE, "two", WHOLE)]:
                    self.raised(UnknownName, {"name": name}, judge_user, BASE, name, parting, value)
        for parting in [*NOTHINGS, list(SPLIT), SPLIT[:1], (*SPLIT, ()), [WHOLE], (["p"], ["q"]), (("p", "q", "a"),)]:
            self.raised(BadParting, {}, user_order, BASE, "two", parting, ONE)
            self.raised(BadParting, {}, serves, BASE, "two", parting)
            self.raised(BadParting, {}, judge_user, BASE, "two", parting, None)


# An output on a closed clock whose cond is an input, an output, a word of three.
LED = read_program("""node led
in c lot(off,low,top)
in a count(2)
in b count(3)
out o p
o = when a c low
p = op plus b b
""")
LED_BY_OUTPUT = read_program("""node led
in c lot(off,low,top)
in a count(2)
in b count(3)
out o d p
d = table lot(off,low,top) low top off : c
o = when a d top
p = op plus b b
""")
# The there of o asks for the there of b, but o needs no b.
LIKE = read_program("""node like
in a count(2)
in b count(2)
out o p
o = const count(2) 1 b
p = op plus b a
""")


class TestServes(Case):
    """serves"""

    def check(self, made, name, parting, chance):
        """Checks what serves tells by the words of [7.6]; returns it."""
        got = self.untouched(serves, made, name, parting)
        self.assertIsInstance(got, tuple)
        self.assertEqual(got[0] == "serves", serves_by_words(made, name, parting))
        if got[0] == "serves":
            word, numbers = got
            asked = [set(found) for found in asked_numbers(made, name, parting)]
            self.assertEqual(sorted(numbers), list(range(len(parting))))
            self.assertIsInstance(numbers, tuple)
            for place, number in enumerate(numbers):
                self.assertLessEqual(asked[number], set(numbers[:place]))
            return got
        _, user, items, points = got
        self.assertEqual(user.nodes()[:-1], Program(cut(made, name)).nodes())
        self.assertEqual({right[1] for _, right in user.main()[3] if right[0] == "call"}, {name})
        self.assertTrue(is_swift(user))
        self.exact(judge_order(user, items), None)
        graph = graph_by_words(made, name, parting, user)
        self.assertTrue(is_right_ring(graph, points))
        self.exact(judge_user(made, name, parting, got), None)
        for state, inputs in drawn_ticks(user, chance, 3):
            self.assertEqual([told[0] for told in run_from(user, state, [inputs, inputs])], ["good", "good"])
        return got

    def test_made_nodes(self):
        chance = random.Random(320)
        led = 0
        for made, name in [(LED, "led"), (LED_BY_OUTPUT, "led"), (LIKE, "like"), (BASE, "two")]:
            users, serving = [], []
            for parting in partings_of(list(stream_asks(made, name))):
                got = self.check(made, name, parting, chance)
                if got[0] == "user":
                    led += any(right[0] == "choose" for _, right in got[1].main()[3])
                    users.append(got[1])
                else:
                    serving.append(parting)
            self.all_ordered(made, name, serving, users)
        self.assertGreater(led, 2)

    def all_ordered(self, made, name, serving, users):
        """Checks that each serving parting orders each user."""
        for parting in serving:
            for user in users:
                got = user_order(made, name, parting, user)
                self.assertEqual(got[0], "order")
                self.assertTrue(is_right_order(graph_by_words(made, name, parting, user), got[1]))

    def test_drawn_nodes(self):
        chance = random.Random(321)
        words = {"serves": 0, "user": 0}
        for made, name in small_nodes(322, 40) + small_nodes(323, 40, True):
            partings = list(partings_of(list(stream_asks(made, name))))
            users, serving = drawn_users(made, name, 324, 2), []
            for parting in chance.sample(partings, min(20, len(partings))):
                got = self.check(made, name, parting, chance)
                words[got[0]] += 1
                if got[0] == "serves":
                    serving.append(parting)
                else:
                    users.append(got[1])
            self.all_ordered(made, name, serving, users)
        self.assertGreater(min(words.values()), 300)

    def test_wide_types(self):
        # The types are as wide as they may be, but a table has no more than sixty results.
        big = "pair(lot(a,b,c,d),count(6))"
        made = read_program(f"""node big
in i {big}
out o p j
k = const {big} (b,3) i
j = op same i i
o = when k j yes
p = op same i i
""")
        self.assertEqual(many(dict(made.streams_at("big"))["o"]), 24)
        for parting in partings_of(["k", "j", "o", "p"]):
            self.check(made, "big", parting, random.Random(325))
        const = read_program(f"""node big
in i {big}
out o p
o = const {big} (b,3) i
p = op same i i
""")
        self.assertEqual(self.check(const, "big", (("o", "p"),), random.Random(328))[0], "user")

    def test_parts_of_calls(self):
        low = ("low", (("a", BIT), ("b", MODES)), ("p", "q"), (
            (("p",), ("op", "plus", ("a", "a"))), (("q",), ("when", "a", "b", "low"))))
        main = ("main", (("s", BIT), ("t", MODES)), ("u", "v"), ((("u", "v"), ("call", "low", ("s", "t"), None)),))
        made = Program([low, main])
        streams = list(stream_asks(made, "main"))
        for parting in list(partings_of(streams))[::9]:
            self.check(made, "main", parting, random.Random(326))
        for parting in partings_of(["p", "q"]):
            self.check(made, "low", parting, random.Random(327))

    def test_partings_that_serve(self):
        for made, name in small_nodes(330, 30) + small_nodes(331, 30, True):
            single, outputs, few = single_parting(made, name), by_outputs(made, name), fewest(made, name)
            for parting in [single, outputs, few]:
                self.assertEqual(serves(made, name, parting)[0], "serves")
            self.assertLessEqual(len(few), len(outputs))
            if len(few) > 1:
                for second in range(1, len(few)):
                    self.assertEqual(serves(made, name, joined(few, 0, second))[0], "user")
            partings = list(partings_of(list(stream_asks(made, name))))
            for parting in random.Random(332).sample(partings, min(12, len(partings))):
                if finer(parting, outputs) and calling_order(made, name, parting)[0] == "order":
                    self.assertEqual(serves(made, name, parting)[0], "serves")

    def test_by_the_needs_of_outputs(self):
        for made, name in small_nodes(333, 20):
            for parting in list(partings_of(list(stream_asks(made, name))))[:15]:
                kept = calling_order(made, name, parting)[0] == "order"
                for output in made.node_at(name)[2]:
                    number = [output in function for function in parting].index(True)
                    kept = kept and set(asked_inputs(made, name, parting)[number]) <= set(needs(made, name, output))
                self.assertEqual(serves(made, name, parting)[0] == "serves", kept)


def cut(made, name):
    """The nodes of a program up to one."""
    nodes = made.nodes()
    return nodes[:[node[0] for node in nodes].index(name) + 1]


def asked_numbers(made, name, parting):
    """The functions that functions ask for, by [7.3]."""
    asked = stream_asks(made, name)
    return [[k for k, other in enumerate(parting) if k != number
             and any(stream in other for one in function for stream in asked[one])]
            for number, function in enumerate(parting)]


ITEMS = order_of(BACK)[1]
RING = ((("u", "v"), 0), "u")
TOLD = ("user", BACK, ITEMS, RING)


class TestJudged(Case):
    """judge_user"""

    def judged(self, value, want, parting=WHOLE, made=BASE, name="two"):
        """Checks what is told of a value."""
        self.exact(self.untouched(judge_user, made, name, parting, value), want)

    def test_right_ones(self):
        self.judged(TOLD, None)
        self.judged(("user", BACK, ITEMS, RING[::-1]), None)
        for count in range(len(ITEMS)):
            moved = list(ITEMS)
            moved.insert(0, moved.pop(count))
            fault = judge_order(BACK, tuple(moved))
            self.judged(("user", BACK, tuple(moved), RING), None if fault is None else ("order", fault))

    def test_forms(self):
        for value in [*NOTHINGS, list(TOLD), TOLD[:3], (*TOLD, None), ("users", *TOLD[1:]), (BACK, *TOLD[1:]),
                      (None, *TOLD[1:]), (["user"], *TOLD[1:]), ("serves", (0,)), {"user": BACK}, BACK, [TOLD], (TOLD,),
                      (TOLD, 1, 2, 3)]:
            self.judged(value, ("form",))

    def test_users(self):
        renamed = Program([("twos", *TWO[1:]), ("user", (("x", YES_NO),), ("u", "v"), (
            (("u", "v"), ("call", "twos", ("x", "u"), None)),))])
        more = Program([TWO, ("other", *TWO[1:]), BACK.main()])
        both = Program([TWO, ("user", (("x", YES_NO),), ("v",), (
            (("v",), ("op", "not", ("x",))),))])
        unclocked = user_of((("u", "v"), ("call", "two", ("x", "u"), None)), (("w",), ("when", "x", "x", "yes")),
                            (("z",), ("op", "and", ("w", "x"))))
        ringed = user_of((("u", "v"), ("call", "two", ("x", "u"), None)), (("h",), ("held", YES_NO, "no", "h", "h")))
        for user in [*NOTHINGS, BASE, renamed, more, both, unclocked, ringed, BACK.nodes(), (BACK,), [BACK], TWO]:
            self.judged(("user", user, ITEMS, RING), ("user",))
            self.judged(("user", user, None, None), ("user",))
        # A node behind the one that is compiled is no part of its users; one ahead is.
        self.judged(("user", BACK, ITEMS, RING), None, made=Program([TWO, ("other", *TWO[1:])]))
        ahead = Program([("other", *TWO[1:]), TWO])
        self.judged(("user", BACK, ITEMS, RING), ("user",), made=ahead)
        calls_other = Program([*ahead.nodes(), ("user", (("x", YES_NO),), ("v",), (
            (("u", "v"), ("call", "two", ("x", "u"), None)), (("r", "s"), ("call", "other", ("x", "x"), None))))])
        self.judged(("user", calls_other, ITEMS, RING), ("user",), made=ahead)
        right = Program([*ahead.nodes(), BACK.main()])
        self.judged(("user", right, ITEMS, RING), None, made=ahead)

    def test_users_with_a_ring_of_items(self):
        # It is clocked, so it is a user; but no tuple is an order of its items.
        clocked = user_of((("u", "v"), ("call", "two", ("x", "t"), None)), (("t",), ("op", "and", ("x", "v"))))
        self.judged(("user", clocked, (), None), ("order", judge_order(clocked, ())))
        self.judged(("user", clocked, ITEMS, RING), ("order", judge_order(clocked, ITEMS)))

    def test_orders(self):
        for items in [*NOTHINGS, list(ITEMS), ITEMS[:-1], ITEMS[1:], ITEMS[::-1], (*ITEMS, ITEMS[0]),
                      (("x", "there"), ("x", True))]:
            for points in [RING, None]:
                self.judged(("user", BACK, items, points), ("order", judge_order(BACK, items)))

    def test_rings(self):
        for points in [*NOTHINGS, list(RING), (), (*RING, RING[0]), (RING[0], RING[0]), ("x",), ("p",), ("u", "w"),
                       ((("u", "v"), 1), "u"), ((("u", "v"), False), "u"), ((["u", "v"], 0), "u"), (("u", 0), "u"),
                       ((("u", "v"), 0, 0), "u"), ((("u", "v"), -1), "u"), (["u"], "u"), ([("u", "v"), 0], "u"),
                       ({"u": 1},), (RING,)]:
            self.judged(("user", BACK, ITEMS, points), ("ring", 0))
        self.judged(("user", BACK, ITEMS, ("u",)), ("ring", 0))
        self.judged(("user", BACK, ITEMS, (*RING, "v")), ("ring", 1))
        self.judged(("user", BACK, ITEMS, ("u", "v", (("u", "v"), 0))), ("ring", 0))
        self.judged(("user", BACK, ITEMS, ((("u", "v"), 0), "v", "u")), ("ring", 0))
        self.judged(("user", BACK, ITEMS, ("v", (("u", "v"), 0), "u")), ("ring", 2))

    def test_numbers_of_functions(self):
        # Where the function is the second one, its number is 1, and True is none.
        parting = (("p",), ("q",))
        user = user_of((("u", "v"), ("call", "two", ("x", "x"), None)))
        self.judged(("user", user, order_of(user)[1], ((("u", "v"), True),)), ("ring", 0), parting)
        self.judged(("user", user, order_of(user)[1], ("v", (("u", "v"), 1))), ("ring", 1), parting)
        self.judged(("user", user, order_of(user)[1], ("v", (("u", "v"), True))), ("ring", 0), parting)

    def test_several_faults(self):
        self.judged(("user", None, None, None), ("user",))
        self.judged(("user", BACK, None, None), ("order", ("form",)))
        self.judged(["user", BACK, ITEMS, RING], ("form",))
        self.judged(("user", BACK, ITEMS[:-1], ("u", "u")), ("order", ("lacks", ITEMS[-1])))

    def test_a_parting_that_serves(self):
        self.judged(TOLD, ("ring", 0), SPLIT)
        self.judged(("user", BACK, ITEMS, ("u", (("u", "v"), 0))), ("ring", 1), SPLIT)
