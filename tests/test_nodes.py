"""Programs: their methods, and TooMany, of [2.2]."""

import copy

from cases import Case, NOTHINGS
from samples import (
    ALL, COUNTER, FOUR, LOW, NESTED, PART, PROGRAMS, SUM, THREE, TWICE, TWO, YES_NO,
)
from tickworks.errors import BadProgram, MixedTypes, TooMany, TwiceTold, UnknownName
from tickworks.nodes import Program, type_at
from tickworks.written import helds_of, written_out


class TestMethods(Case):
    """nodes, node_at, main, streams_at, len and =="""

    def test_nodes(self):
        for nodes in PROGRAMS.values():
            for made in [Program(nodes), Program(tuple(nodes))]:
                self.exact(made.nodes(), list(nodes))
                self.exact(len(made), len(nodes))
                self.exact(made.main(), nodes[-1])
                for node in nodes:
                    self.exact(made.node_at(node[0]), node)

    def test_streams(self):
        made = Program([SUM, TWICE])
        self.exact(made.streams_at("sum"), [("step", FOUR), ("n", FOUR), ("m", FOUR)])
        self.exact(made.streams_at("two"), [("s", FOUR), ("p", FOUR)])
        self.exact(Program([PART]).streams_at("part"),
                   [("s", FOUR), ("b", YES_NO), ("x", FOUR), ("y", FOUR), ("z", FOUR)])

    def test_unknown_names(self):
        made = Program([SUM, TWICE])
        for name in [*NOTHINGS, "nowhere", "m", "step", "s", "Sum", "sum ", ("sum",), ["sum"], {"sum": 1}]:
            for call in [made.node_at, made.streams_at]:
                caught = self.raised(UnknownName, {"name": name}, call, name)
                self.apart(caught, name)
        self.raised(UnknownName, {"name": 0}, made.node_at, 0)
        self.assertEqual(self.raised(UnknownName, {}, made.node_at, [made]).name, [made])

    def test_new_lists(self):
        for nodes in PROGRAMS.values():
            made = Program(nodes)
            self.fresh(made.nodes)
            self.fresh(made.streams_at, nodes[0][0])
            self.fresh(made.streams_at, nodes[-1][0])
            self.exact(made.nodes(), nodes)

    def test_the_list_is_not_kept(self):
        handed = [SUM, TWICE]
        made = Program(handed)
        handed.append(PART)
        del handed[0]
        self.exact(made.nodes(), [SUM, TWICE])
        self.assertEqual(made, Program([SUM, TWICE]))
        self.exact(handed, [TWICE, PART])

    def test_the_list_is_not_changed(self):
        for nodes in PROGRAMS.values():
            self.untouched(Program, list(nodes))
        wrong = [{"a": [1]}, [SUM], ("n", [], {}, ())]
        with self.assertRaises(BadProgram):
            self.untouched(Program, wrong)

    def test_equal_programs(self):
        for name, nodes in PROGRAMS.items():
            one = Program(nodes)
            self.assertTrue(one == Program(copy.deepcopy(list(nodes))))
            self.assertTrue(one == Program(tuple(nodes)))
            self.assertFalse(one != Program(tuple(nodes)))
            for other_name, others in PROGRAMS.items():
                self.exact(one == Program(others), name == other_name)
                self.exact(one != Program(others), name != other_name)

    def test_programs_that_differ_in_little(self):
        other = ("sum", SUM[1], SUM[2], (SUM[3][0], (("m",), ("op", "plus", ("step", "n")))))
        self.assertFalse(Program([SUM]) == Program([other]))
        held = ((("n",), ("held", FOUR, 1, "m", "step")), SUM[3][1])
        self.assertFalse(Program([SUM]) == Program([SUM[:3] + (held,)]))
        self.assertFalse(Program([SUM, PART]) == Program([PART, SUM]))
        self.assertFalse(Program([SUM, PART]) == Program([PART]))
        self.assertTrue(Program([SUM, PART]) != Program([PART]))

    def test_nothing_else_is_equal(self):
        made = Program([SUM])
        for other in [*NOTHINGS, [SUM], (SUM,), SUM, made.nodes(), "sum", [made], object()]:
            self.assertFalse(made == other)
            self.assertTrue(made != other)
            self.assertFalse(other == made)

    def test_each_method_stands_in_the_class(self):
        for name in ["nodes", "node_at", "main", "streams_at", "__len__", "__eq__", "__init__"]:
            self.assertIn(name, vars(Program))
        self.assertEqual(Program.__module__, "tickworks.nodes")
        self.assertEqual(type_at.__module__, "tickworks.nodes")


def plus(name, one="i", other="i"):
    """An equation of plus."""
    return ((name,), ("op", "plus", (one, other)))


def held(name):
    """An equation of held."""
    return ((name,), ("held", TWO, 0, "i", "i"))


def call(names, node, *args):
    """An equation of a call without again."""
    return (tuple(names), ("call", node, args, None))


EIGHT = ("eight", tuple([(word, TWO) for word in "ijkl"]), tuple("abcd"), tuple([plus(word) for word in "abcdefgh"]))
ONE = ("one", (("i", TWO),), ("a",), (plus("a"),))
HELDS = ("helds", (("i", TWO),), ("a",), (held("a"), held("b")))


class TestTooMany(Case):
    """TooMany()"""

    def rows(self, number, nodes):
        """Checks that a program is as long as this, and that one stream more is too many."""
        made = Program(nodes)
        self.assertEqual(len(written_out(made)), number)

    def test_streams(self):
        def main(inputs, equations):
            words = tuple([(word, TWO) for word in "ijk"[:inputs]])
            others = [plus(word) for word in "stuvwxyz"[:equations]]
            return ("main", words, ("a",), (call("abcd", "eight", "i", "i", "i", "i"), *others))
        self.rows(24, [EIGHT, main(1, 7)])
        self.rows(24, [EIGHT, main(2, 6)])
        self.raised(TooMany, {}, Program, [EIGHT, main(2, 7)])
        self.raised(TooMany, {}, Program, [EIGHT, main(3, 6)])

    def test_all_rows_count(self):
        two = [call("abcd", "eight", "i", "i", "i", "i"), call("efgh", "eight", "i", "i", "i", "i")]
        self.raised(TooMany, {}, Program, [EIGHT, ("main", (("i", TWO),), ("a",), tuple(two))])
        more = [plus(word) for word in "uvwxyz"]
        calls = [call("a", "one", "i"), call("b", "one", "i")]
        wide = ("wide", (("i", TWO),), ("a",), tuple(calls + more))
        def main(extra):
            told = [call("a", "wide", "i"), call("b", "one", "i"), *[plus(word) for word in "stuvwx"[:extra]]]
            return ("main", (("i", TWO),), ("a",), tuple(told))
        self.rows(24, [ONE, wide, main(6)])
        longer = ("wide", (("i", TWO), ("j", TWO)), ("a",), tuple(calls + more))
        last = ("main", (("i", TWO),), ("a",), (call("a", "longer", "i", "i"), *main(6)[3][1:]))
        self.raised(TooMany, {}, Program, [ONE, ("longer",) + longer[1:], last])

    def test_helds(self):
        def main(number):
            return ("main", (("i", TWO),), ("a",), tuple([held(word) for word in "abcdefgh"[:number]]))
        self.assertEqual(len(helds_of(Program([main(6)]))), 6)
        self.raised(TooMany, {}, Program, [main(7)])
        self.raised(TooMany, {}, Program, [main(8)])

    def test_helds_of_calls(self):
        def main(calls, own):
            told = [call(word, "helds", "i") for word in "abcd"[:calls]] + [held(word) for word in "wxyz"[:own]]
            return ("main", (("i", TWO),), ("a",), tuple(told))
        self.assertEqual(len(helds_of(Program([HELDS, main(3, 0)]))), 6)
        self.assertEqual(len(helds_of(Program([HELDS, main(2, 2)]))), 6)
        self.raised(TooMany, {}, Program, [HELDS, main(3, 1)])
        self.raised(TooMany, {}, Program, [HELDS, main(4, 0)])
        self.raised(TooMany, {}, Program, [HELDS, main(2, 3)])

    def test_calls(self):
        def main(number):
            return ("main", (("i", TWO),), ("a",), tuple([call(word, "one", "i") for word in "abcdefgh"[:number]]))
        self.assertEqual(len(written_out(Program([ONE, main(4)]))), 13)
        self.raised(TooMany, {}, Program, [ONE, main(5)])

    def test_calls_within_calls(self):
        def twice(name, inner):
            return (name, (("i", TWO),), ("a",), (call("a", inner, "i"), call("b", inner, "i")))
        def once(name, inner):
            return (name, (("i", TWO),), ("a",), (call("a", inner, "i"),))
        self.assertEqual(len(Program([ONE, twice("f", "one"), once("g", "f")])), 3)
        self.assertEqual(len(Program([ONE, once("f", "one"), twice("g", "f")])), 3)
        self.assertEqual(len(Program([ONE, once("f", "one"), once("g", "f"), once("h", "g")])), 4)
        self.raised(TooMany, {}, Program, [ONE, twice("f", "one"), twice("g", "f")])
        self.raised(TooMany, {}, Program, [ONE, once("f", "one"), once("g", "f"), twice("h", "g")])
        more = (call("c", "one", "i"), call("d", "one", "i"))
        three = twice("f", "one")[:3] + (twice("f", "one")[3] + more[:1],)
        self.assertEqual(len(Program([ONE, three, once("g", "f")])), 3)
        four = twice("f", "one")[:3] + (twice("f", "one")[3] + more,)
        self.raised(TooMany, {}, Program, [ONE, four, once("g", "f")])

    def test_rows_of_inputs(self):
        def main(*kinds):
            words = "ijkl"[:len(kinds)]
            return ("main", tuple(zip(words, kinds)), ("a",), (plus("a", words[0], words[0]),))
        for kinds in [(("count", 6), FOUR), (FOUR, ("count", 6)), (TWO, TWO, TWO, THREE), (THREE, FOUR, TWO),
                      (("count", 6), ("pair", TWO, TWO))]:
            self.assertEqual(len(Program([main(*kinds)])), 1)
        for kinds in [(("count", 5), ("count", 5)), (TWO, TWO, TWO, FOUR), (("count", 6), FOUR, TWO),
                      (FOUR, ("lot", ("a", "b", "c", "d")), TWO), (TWO, ("pair", THREE, FOUR), TWO)]:
            self.raised(TooMany, {}, Program, [main(*kinds)])

    def test_nodes_that_main_does_not_come_to(self):
        def many(name):
            return (name, (("i", TWO),), ("a",), tuple([held(word) for word in "abcdefgh"]))
        wide = ("wide", (("i", FOUR), ("j", FOUR), ("k", FOUR)), ("a",), (plus("a"),))
        calls = ("calls", (("i", TWO),), ("a",), tuple([call(word, "many", "i") for word in "abcdefgh"]))
        self.assertEqual(len(Program([many("many"), calls, wide, ONE])), 4)
        self.raised(TooMany, {}, Program, [many("many"), ONE, calls])
        self.raised(TooMany, {}, Program, [many("many"), wide])
        self.raised(TooMany, {}, Program, [ONE, many("many")])

    def test_behind_all_other_errors(self):
        many = ("many", (("i", TWO),), ("a",), tuple([held(word) for word in "abcdefgh"]))
        self.raised(TooMany, {}, Program, [many])
        wrong = ("many", many[1], many[2], many[3][:7] + ((("h",), ("op", "not", ("i",))),))
        self.raised(MixedTypes, {"node": "many", "stream": "h"}, Program, [wrong])
        mixed = ("mixed", (("i", TWO),), ("x",), ((("x",), ("op", "not", ("i",))),))
        self.raised(MixedTypes, {"node": "mixed", "stream": "x"}, Program, [mixed, many])
        self.raised(UnknownName, {"name": "b"}, Program, [("unknown", ONE[1], ("b",), ONE[3]), many])
        self.raised(TwiceTold, {"name": "many"}, Program, [("many",) + ONE[1:], many])
        self.raised(BadProgram, {"path": (0, 0)}, Program, [(None,) + ONE[1:], many])
        self.raised(TooMany, {}, Program, [ONE, LOW, COUNTER, many])

    def test_samples_at_the_bounds(self):
        self.assertEqual(len(written_out(Program(ALL))), 24)
        self.assertEqual(len(written_out(Program(NESTED))), 19)
