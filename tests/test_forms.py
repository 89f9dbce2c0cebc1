"""The forms of nodes: BadProgram of [2.2]."""

from cases import Case, NOTHINGS
from samples import ALL, BOTH, COLOURS, FOUR, LOW, NESTED, PROGRAMS, SUM, THREE, TWO, YES_NO
from tickworks.errors import BadProgram, MixedTypes, TwiceTold, UnknownName
from tickworks.nodes import Program

ROLES = {
    "const": ("kind", "value", "word"),
    "op": ("op", "words"),
    "table": ("kind", "values", "words"),
    "held": ("kind", "value", "word", "word"),
    "when": ("word", "word", "word"),
    "choose": ("word", "words"),
    "call": ("word", "words", "again"),
}


def part_paths(role, part, path):
    """The pairs (path, role) of a part of a right side, and of its parts."""
    found = [(path, role)]
    if role in ("words", "values") or role == "again" and part is not None:
        inner = "value" if role == "values" else "word"
        found += [(path + (place,), inner) for place in range(len(part))]
    return found


def node_paths(node, path):
    """The pairs (path, role) of a node and of all of its parts."""
    found = [(path, "fixed"), (path + (0,), "word"), (path + (1,), "tuple")]
    for place in range(len(node[1])):
        here = path + (1, place)
        found += [(here, "fixed"), (here + (0,), "word"), (here + (1,), "kind")]
    found += part_paths("words", node[2], path + (2,)) + [(path + (3,), "tuple")]
    for place, (names, right) in enumerate(node[3]):
        here = path + (3, place)
        found += [(here, "fixed")] + part_paths("words", names, here + (0,)) + [(here + (1,), "fixed")]
        for number, (role, part) in enumerate(zip(ROLES[right[0]], right[1:])):
            found += part_paths(role, part, here + (1, number + 1))
    return found


def all_paths(nodes):
    """The pairs (path, role) of all parts of a list of nodes, but of the list itself."""
    return [pair for place, node in enumerate(nodes) for pair in node_paths(node, (place,))]


def at(nodes, path):
    """The part to which a path leads."""
    for place in path:
        nodes = nodes[place]
    return nodes


def put(nodes, path, part):
    """The nodes with another part at a path."""
    if not path:
        return part
    inner = put(nodes[path[0]], path[1:], part)
    changed = [*nodes[:path[0]], inner, *nodes[path[0] + 1:]]
    return changed if isinstance(nodes, list) else tuple(changed)


def wrong_parts(role, part):
    """What has not the own form that is asked for in the place of a part."""
    tuples = [value for value in NOTHINGS if not isinstance(value, tuple)]
    if role == "fixed":
        return tuples + [(), list(part), part * 2, part[:-1], part + part[-1:], part + (None,), "word"]
    if role in ("tuple", "words", "values"):
        return tuples + [(), list(part), part * 61, "word"]
    if role == "again":
        return [value for value in tuples if value is not None] + [
            (), ("t",), ("t", "yes", "no"), ["t", "yes"], "word", (("t", "yes"), ("t", "yes"), None)]
    if role == "value":
        return [value for value in NOTHINGS if repr(value) not in ("0", "1")] + ["word", ("red", True)]
    if role == "kind":
        return NOTHINGS + [
            "count", ("count", 7), ("count", True), ("lot", ("a", "a")), ("lot", ["a", "b"]),
            ["count", 2], ("pair", TWO, ("count", 1)), ("pair", ("count", 5), ("count", 5)),
            ("pair", ("pair", TWO, TWO), ("pair", TWO, TWO)),
        ]
    if role == "op":
        return NOTHINGS + ["nor", "no", "count", "minus", "abcdefgh"]
    return NOTHINGS + ["a1", "a ", "`", "{", ("a",), ["a"], "a.b"]


class TestForms(Case):
    """BadProgram(path)"""

    def test_all_samples_are_programs(self):
        for nodes in PROGRAMS.values():
            self.exact(Program(nodes).nodes(), nodes)
            self.exact(Program(tuple(nodes)).nodes(), nodes)

    def test_what_is_no_list_of_nodes(self):
        for value in NOTHINGS:
            if not isinstance(value, (list, tuple)) or not value:
                self.raised(BadProgram, {"path": ()}, Program, value)
        self.raised(BadProgram, {"path": ()}, Program, "node")
        self.raised(BadProgram, {"path": ()}, Program, {0: SUM})
        self.raised(BadProgram, {"path": ()}, Program, Program([SUM]))
        self.raised(BadProgram, {"path": (0,)}, Program, SUM)

    def test_each_wrong_part(self):
        for nodes in [ALL, NESTED]:
            for path, role in all_paths(nodes):
                for wrong in wrong_parts(role, at(nodes, path)):
                    changed = put(nodes, path, wrong)
                    with self.subTest(path=path, wrong=wrong):
                        self.raised(BadProgram, {"path": path}, Program, changed)
                        self.raised(BadProgram, {"path": path}, Program, tuple(changed))

    def test_two_wrong_parts(self):
        paths = all_paths(ALL)
        for first, role in paths:
            wrong = "+" if role != "value" else None
            changed = put(ALL, first, wrong)
            for second, _ in paths:
                if second[:len(first)] != first and first[:len(second)] != second:
                    twice = put(changed, second, {"a": []})
                    self.raised(BadProgram, {"path": min(first, second)}, Program, twice)

    def test_a_thing_ahead_of_its_parts(self):
        for path, role in all_paths(ALL):
            if role in ("fixed", "tuple", "words", "values"):
                for inner, inner_role in all_paths(ALL):
                    if inner[:len(path)] == path and inner != path:
                        changed = put(ALL, inner, None if inner_role != "again" else 5)
                        changed = put(changed, path, at(changed, path) * 61)
                        self.raised(BadProgram, {"path": path}, Program, changed)

    def test_lists_in_the_place_of_tuples(self):
        for path, _ in all_paths(ALL):
            part = at(ALL, path)
            if isinstance(part, tuple):
                self.raised(BadProgram, {"path": path}, Program, put(ALL, path, list(part)))

    def test_first_words_and_lengths(self):
        for number, (names, right) in enumerate(LOW[3]):
            path = (0, 3, number, 1)
            wrong = [right[:1], right[:-1], right + ("a",), right + (None,), ("input", TWO),
                     ("as", "i"), ("arg", ("i",), 0), ("Const",) + right[1:], (None,) + right[1:],
                     ([right[0]],) + right[1:], ({},) + right[1:], ("opp",) + right[1:], ("held",), ("",)]
            for other in wrong:
                self.raised(BadProgram, {"path": path}, Program, put(ALL, path, other))

    def test_values_of_the_type(self):
        kinds = [(TWO, 2), (TWO, True), (TWO, False), (TWO, "0"), (YES_NO, "on"), (COLOURS, 0),
                 (BOTH, ("red", True)), (BOTH, ["red", 0]), (BOTH, "red"), (BOTH, ("blue", 2))]
        for kind, value in kinds:
            held = ("held", kind, value, "i", "i")
            const = ("const", kind, value, "i")
            for right in [held, const]:
                self.raised(BadProgram, {"path": (0, 3, 2, 1, 2)}, Program, put(ALL, (0, 3, 2, 1), right))
            for results in [(value,), (value, None)]:
                table = ("table", kind, results, ("i",))
                self.raised(BadProgram, {"path": (0, 3, 2, 1, 2, 0)}, Program, put(ALL, (0, 3, 2, 1), table))
        table = ("table", TWO, (0, 1, True, False), ("i", "j"))
        self.raised(BadProgram, {"path": (0, 3, 1, 1, 2, 2)}, Program, put(ALL, (0, 3, 1, 1), table))

    def test_how_many_operands_an_op_has(self):
        numbers = {"not": 1, "first": 1, "second": 1, "and": 2, "or": 2, "same": 2, "less": 2,
                   "plus": 2, "pair": 2}
        path = (0, 3, 6, 1)
        for word, number in numbers.items():
            for many in range(6):
                changed = put(ALL, path, ("op", word, ("i",) * many))
                if many == number:
                    self.has_its_form(changed)
                else:
                    self.raised(BadProgram, {"path": path + (2,)}, Program, changed)
            wrong = ("op", word, (None,) * number)
            self.raised(BadProgram, {"path": path + (2, 0)}, Program, put(ALL, path, wrong))
        self.raised(BadProgram, {"path": path + (1,)}, Program, put(ALL, path, ("op", "nor", ())))
        self.raised(BadProgram, {"path": path + (2,)}, Program, put(ALL, path, ("op", "not", (None, None))))

    def has_its_form(self, nodes):
        """Checks that nodes have their form, whether their types fit or not."""
        try:
            Program(nodes)
        except MixedTypes:
            pass

    def test_the_parts_of_an_op_in_order(self):
        path = (0, 3, 6, 1)
        self.raised(BadProgram, {"path": path + (1,)}, Program, put(ALL, path, ("op", "minus", None)))
        self.raised(BadProgram, {"path": path}, Program, put(ALL, path, ("op", "minus", None, None)))
        self.raised(BadProgram, {"path": path}, Program, put(ALL, path, ("pop", None, None)))

    def test_forms_ahead_of_names(self):
        twice = put(ALL, (0, 0), "main")
        self.raised(TwiceTold, {"name": "main"}, Program, twice)
        last = (1, 3, 1, 1, 3, 1)
        self.raised(BadProgram, {"path": last}, Program, put(twice, last, "Yes"))
        unknown = put(ALL, (0, 3, 0, 1, 3), "nowhere")
        self.raised(UnknownName, {"name": "nowhere"}, Program, unknown)
        self.raised(BadProgram, {"path": last}, Program, put(unknown, last, "Yes"))
        mixed = put(ALL, (0, 3, 0, 1), ("op", "not", ("i",)))
        self.raised(MixedTypes, {"node": "low", "stream": "a"}, Program, mixed)
        self.raised(BadProgram, {"path": last}, Program, put(mixed, last, None))


def chain(length):
    """A node with so many equations, each but the first a plus of the one ahead."""
    names = ["a", "b", "c", "d", "e", "f", "g", "h", "i"][:length]
    equations = [((name,), ("op", "plus", (ahead, ahead))) for ahead, name in zip(["x"] + names, names)]
    return ("chain", (("x", TWO),), (names[-1],), tuple(equations))


def wide(inputs, outputs, args, names):
    """A node of so many inputs and outputs, and one that calls it with so many args and names."""
    words = ["p", "q", "r", "s", "t"]
    told = ("a", "b", "c", "d", "e")[:outputs]
    equations = tuple([((word,), ("op", "plus", ("p", "p"))) for word in told])
    wide_node = ("wide", tuple([(word, TWO) for word in words[:inputs]]), told, equations)
    call = (tuple(words[:names]), ("call", "wide", ("i",) * args, None))
    return [wide_node, ("caller", (("i", TWO),), ("p",), (call,))]


class TestBounds(Case):
    """How many parts there may be."""

    def test_nodes(self):
        other = [SUM, *[(name,) + SUM[1:] for name in ["b", "c", "d", "e"]]]
        for many in [1, 2, 3, 4]:
            self.assertEqual(len(Program(other[:many])), many)
        self.raised(BadProgram, {"path": ()}, Program, other)
        self.raised(BadProgram, {"path": ()}, Program, [None] * 5)
        self.raised(BadProgram, {"path": (0,)}, Program, [None] * 4)

    def test_equations(self):
        self.assertEqual(len(Program([chain(8)]).main()[3]), 8)
        self.raised(BadProgram, {"path": (0, 3)}, Program, [chain(9)])
        self.raised(BadProgram, {"path": (0, 3)}, Program, [chain(1)[:3] + ((),)])

    def test_inputs_outputs_args_and_names(self):
        self.assertEqual(len(Program(wide(4, 4, 4, 4))), 2)
        self.assertEqual(len(Program(wide(1, 1, 1, 1))), 2)
        for numbers, path in [((5, 4, 5, 5), (0, 1)), ((4, 5, 5, 5), (0, 2)), ((4, 4, 5, 4), (1, 3, 0, 1, 2)),
                              ((4, 4, 4, 5), (1, 3, 0, 0)), ((0, 4, 4, 4), (0, 1)), ((4, 0, 4, 4), (0, 2)),
                              ((4, 4, 0, 4), (1, 3, 0, 1, 2)), ((4, 4, 4, 0), (1, 3, 0, 0))]:
            self.raised(BadProgram, {"path": path}, Program, wide(*numbers))

    def test_results(self):
        inputs = (("a", ("count", 5)), ("b", FOUR), ("c", THREE))
        main = ("main", (("i", TWO),), ("o",), ((("o",), ("op", "plus", ("i", "i"))),))
        for many, error in [(60, None), (59, MixedTypes), (61, BadProgram), (0, BadProgram), (1, MixedTypes)]:
            node = ("n", inputs, ("t",), ((("t",), ("table", TWO, (1,) * many, ("a", "b", "c"))),))
            if error is None:
                self.assertEqual(len(Program([node, main])), 2)
            elif error is MixedTypes:
                self.raised(MixedTypes, {"node": "n", "stream": "t"}, Program, [node, main])
            else:
                self.raised(BadProgram, {"path": (0, 3, 0, 1, 2)}, Program, [node, main])

    def test_branches_and_args_of_tables(self):
        four = ("lot", ("a", "b", "c", "d"))
        def branched(many):
            right = ("choose", "l", ("i",) * many)
            return [("n", (("l", four), ("i", TWO)), ("t",), ((("t",), right),))]
        self.assertEqual(len(Program(branched(4))), 1)
        self.raised(BadProgram, {"path": (0, 3, 0, 1, 2)}, Program, branched(5))
        self.raised(BadProgram, {"path": (0, 3, 0, 1, 2)}, Program, branched(0))
        def tabled(many):
            right = ("table", TWO, (0,) * 2 ** many, ("i",) * many)
            return [("n", (("i", TWO),), ("t",), ((("t",), right),))]
        self.assertEqual(len(Program(tabled(4))), 1)
        self.raised(BadProgram, {"path": (0, 3, 0, 1, 3)}, Program, tabled(5))
        self.raised(BadProgram, {"path": (0, 3, 0, 1, 3)}, Program, tabled(0))

    def test_words(self):
        long = ("abcdefgh", (("zzzzzzzz", TWO),), ("hgfedcba",), (
            (("hgfedcba",), ("op", "plus", ("zzzzzzzz", "zzzzzzzz"))),))
        self.exact(Program([long]).nodes(), [long])
        self.raised(BadProgram, {"path": (0, 0)}, Program, [put(long, (0,), "abcdefghi")])
        self.raised(BadProgram, {"path": (0, 2, 0)}, Program, [put(long, (2, 0), "")])
