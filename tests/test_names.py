"""The names in nodes: TwiceTold and UnknownName of [2.2]."""

from cases import Case
from samples import ALL, COUNTER, LOW, MAIN, NESTED, SUM, TWICE, TWO, YES_NO
from test_forms import at, put
from tickworks.errors import MixedTypes, TwiceTold, UnknownName
from tickworks.nodes import Program


def node(name="n", inputs=("i", "j"), outputs=("a",), equations=(("a",),)):
    """A node of TWO alone, whose equations all are plus of the first input."""
    first = inputs[0]
    return (name, tuple([(word, TWO) for word in inputs]), outputs, tuple(
        [(names, ("op", "plus", (first, first))) for names in equations]))


class TestTwice(Case):
    """TwiceTold(name)"""

    def twice(self, name, *nodes):
        """Checks that the name is the first one that stands twice."""
        self.raised(TwiceTold, {"name": name}, Program, list(nodes))
        self.raised(TwiceTold, {"name": name}, Program, nodes)

    def test_nodes(self):
        self.twice("sum", SUM, SUM)
        self.twice("sum", SUM, COUNTER, TWICE, SUM)
        self.twice("n", node(), node("m"), node("n"), node("m"))
        self.twice("m", node(), node("m"), node("m"), node("n"))

    def test_inputs(self):
        self.twice("i", node(inputs=("i", "i")))
        self.twice("j", node(inputs=("i", "j", "k", "j")))
        self.twice("i", node(inputs=("i", "j", "i", "j")))

    def test_names_of_equations(self):
        self.twice("i", node(equations=(("a",), ("i",))))
        self.twice("a", node(equations=(("a",), ("b",), ("a",))))
        self.twice("b", node(equations=(("a", "b", "b"),)))
        self.twice("b", node(equations=(("a", "b"), ("c", "b", "a"))))
        self.twice("a", node(equations=(("a", "b"), ("c", "a", "b"))))
        self.twice("j", node(equations=(("a", "j"), ("a",))))

    def test_outputs(self):
        self.twice("a", node(outputs=("a", "a")))
        self.twice("b", node(outputs=("a", "b", "c", "b"), equations=(("a",), ("b",), ("c",))))
        self.twice("x", node(outputs=("a", "x", "x")))
        self.twice("a", node(outputs=("a", "b", "a", "b"), equations=(("a",), ("b",))))

    def test_in_one_node_in_order(self):
        both = node(inputs=("i", "i"), outputs=("a", "a"), equations=(("b",), ("a",), ("b",)))
        self.twice("i", both)
        self.twice("b", node(outputs=("a", "a"), equations=(("b",), ("a",), ("b",))))
        self.twice("n", node("n"), node("n", inputs=("i", "i"), outputs=("a", "a")))

    def test_node_by_node(self):
        self.twice("a", node("n", outputs=("a", "a")), node("n"))
        self.twice("i", node("n"), node("m", inputs=("i", "i")), node("n"))
        self.twice("n", node("n"), node("n"), node("m", inputs=("i", "i")))
        self.twice("k", node("n"), node("m", inputs=("k", "k")), node("l", inputs=("l", "l")))

    def test_what_may_stand_twice(self):
        same = node("a", inputs=("i", "n"), outputs=("a",), equations=(("a",), ("m",)))
        self.assertEqual(len(Program([same, node("i"), node("n"), node("m")])), 4)

    def test_ahead_of_unknown_names(self):
        first = put(SUM, (3, 1, 1, 2, 0), "nowhere")
        self.raised(UnknownName, {"name": "nowhere"}, Program, [first, COUNTER])
        self.twice("up", first, put(COUNTER, (1, 1, 0), "up"))
        self.twice("step", put(first, (3, 0, 0, 0), "step"))


class TestUnknown(Case):
    """UnknownName(name)"""

    def unknown(self, name, nodes):
        """Checks that the name is the first one that nothing has."""
        self.raised(UnknownName, {"name": name}, Program, nodes)

    def test_outputs(self):
        self.unknown("b", [node(outputs=("b",))])
        self.unknown("i", [node(outputs=("i",))])
        self.unknown("c", [node(outputs=("a", "c", "b"))])
        self.unknown("n", [node(outputs=("a", "n"))])
        self.unknown("i", [node(outputs=("a", "i", "x"))])

    def test_each_operand(self):
        operands = [
            (0, 3), (1, 3, 0), (1, 3, 1), (2, 3), (2, 4), (3, 1), (3, 2), (4, 1), (4, 2), (5, 1),
            (5, 2, 0), (5, 2, 1), (6, 2, 0), (6, 2, 1),
        ]
        for number, *rest in operands:
            path = (0, 3, number, 1, *rest)
            self.unknown("nowhere", put(ALL, path, "nowhere"))
            for name in ["low", "main", "s", "yes", "red", "plus", "z"]:
                self.unknown(name, put(ALL, path, name))
        for path in [(0, 1, 2, 0), (0, 1, 2, 1), (1, 1, 2, 0), (1, 1, 2, 1), (1, 1, 3, 0)]:
            path = (1, 3, path[0], path[1], *path[2:])
            self.unknown("nowhere", put(ALL, path, "nowhere"))
            for name in ["low", "main", "i", "h", "b"]:
                self.unknown(name, put(ALL, path, name))

    def test_words_are_no_operands(self):
        self.raised(MixedTypes, {"node": "low", "stream": "w"}, Program, put(ALL, (0, 3, 3, 1, 3), "nowhere"))
        self.raised(MixedTypes, {"node": "main", "stream": "z"}, Program, put(ALL, (1, 3, 1, 1, 3, 1), "nowhere"))

    def test_operands_in_order(self):
        changed = ALL
        paths = [
            (0, 2, 0), (0, 2, 1), (0, 3, 0, 1, 3), (0, 3, 1, 1, 3, 0), (0, 3, 1, 1, 3, 1), (0, 3, 2, 1, 3),
            (0, 3, 2, 1, 4), (0, 3, 3, 1, 1), (0, 3, 3, 1, 2), (0, 3, 5, 1, 1), (0, 3, 5, 1, 2, 0),
            (0, 3, 5, 1, 2, 1), (0, 3, 6, 1, 2, 0), (0, 3, 6, 1, 2, 1), (1, 2, 0), (1, 3, 0, 1, 1),
            (1, 3, 0, 1, 2, 0), (1, 3, 0, 1, 2, 1), (1, 3, 1, 1, 1), (1, 3, 1, 1, 2, 0), (1, 3, 1, 1, 2, 1),
            (1, 3, 1, 1, 3, 0),
        ]
        names = [f"un{chr(97 + number)}" for number in range(len(paths))]
        for path, name in zip(paths, names):
            changed = put(changed, path, name)
        for path, name in zip(paths, names):
            self.unknown(name, changed)
            changed = put(changed, path, at(ALL, path))
        self.exact(Program(changed).nodes(), ALL)

    def test_nodes_that_are_called(self):
        self.unknown("sum", [TWICE, SUM])
        self.unknown("two", [SUM, put(TWICE, (3, 0, 1, 1), "two")])
        self.unknown("nowhere", [SUM, put(TWICE, (3, 0, 1, 1), "nowhere")])
        self.unknown("s", [SUM, put(TWICE, (3, 0, 1, 1), "s")])
        self.unknown("counter", [NESTED[1], NESTED[0], NESTED[2]])
        self.unknown("middle", [NESTED[0], NESTED[2], NESTED[1]])
        self.unknown("sum", [TWICE])
        both = put(put(TWICE, (3, 0, 1, 1), "un"), (3, 0, 1, 2, 0), "deux")
        self.unknown("un", [SUM, both])
        self.unknown("deux", [SUM, put(both, (3, 0, 1, 1), "sum")])

    def test_streams_of_other_nodes(self):
        self.unknown("n", [SUM, put(TWICE, (3, 0, 1, 2, 0), "n")])
        self.unknown("m", [SUM, put(TWICE, (2, 0), "m")])

    def test_a_stream_may_be_told_later(self):
        later = ("n", (("i", TWO),), ("a",), (
            (("a",), ("op", "plus", ("b", "i"))), (("b",), ("op", "plus", ("i", "i")))))
        self.assertEqual(len(Program([later])), 1)

    def test_node_by_node(self):
        mixed = put(LOW, (3, 0, 1), ("op", "not", ("i",)))
        self.raised(MixedTypes, {"node": "low", "stream": "a"}, Program, [mixed, MAIN])
        self.unknown("nowhere", [mixed, put(MAIN, (3, 1, 1, 3, 0), "nowhere")])
        self.unknown("here", [put(LOW, (3, 6, 1, 2, 1), "here"), put(MAIN, (2, 0), "there")])

    def test_outputs_ahead_of_operands(self):
        changed = put(put(SUM, (2, 0), "o"), (3, 0, 1, 3), "p")
        self.unknown("o", [changed])
        self.unknown("p", [put(changed, (2, 0), "m")])

    def test_both_sides_of_a_choose(self):
        right = ("choose", "nocond", ("x", "y"))
        inputs = (("b", YES_NO), ("i", TWO))
        self.unknown("nocond", [("n", inputs, ("c",), ((("c",), right),))])
        right = ("choose", "b", ("i", "y"))
        self.unknown("y", [("n", inputs, ("c",), ((("c",), right),))])
