"""Items, and what they ask for: [5.1], and their levels: [5.5]."""

from cases import Case, NOTHINGS
from drawn import swift_programs
from samples import ALL, HALVES, LOOP, NESTED, PROGRAMS, SUM, TWICE, WORST
from test_rounds import some_ticks
from tickworks.errors import Ring, UnknownName
from tickworks.items import asks, deepest, items, levels, reach
from tickworks.nodes import Program
from tickworks.nodetexts import read_program
from tickworks.rounds import filled_by, filling, rounds
from tickworks.written import written_out


def there(*streams):
    """The there items of streams."""
    return [(stream, "there") for stream in streams]


def told(*streams):
    """The told items of streams."""
    return [(stream, "told") for stream in streams]


def asked_by_words(program, item):
    """What an item asks for, by the words of [5.1], as a set."""
    right = dict(written_out(program))[item[0]]
    word, stream = right[0], item[0]
    if item[1] == "there":
        first = {
            "const": lambda: right[3], "held": lambda: right[4], "op": lambda: right[2][0],
            "table": lambda: right[3][0],
            "arg": lambda: right[1][right[2]], "when": lambda: right[1], "choose": lambda: right[1],
            "as": lambda: right[1],
        }
        found = set(there(first[word]())) if word != "input" else set()
        return found | set(told(right[2])) if word == "when" else found
    values = {
        "op": lambda: right[2], "table": lambda: right[3], "arg": lambda: [right[1][right[2]]],
        "when": lambda: [right[1]], "as": lambda: [right[1]], "choose": lambda: [right[1], *right[2]],
    }
    return set(there(stream)) | set(told(*values[word]()) if word in values else [])


class TestItems(Case):
    """items, asks, reach"""

    def test_all_items(self):
        self.exact(items(Program([SUM, TWICE])), [
            ("s", "there"), ("s", "told"), ("p.step", "there"), ("p.step", "told"), ("p.n", "there"), ("p.n", "told"),
            ("p.m", "there"), ("p.m", "told"), ("p", "there"), ("p", "told")])
        for nodes in PROGRAMS.values():
            made = Program(nodes)
            self.exact(items(made), [(stream, word) for stream, _ in written_out(made) for word in ("there", "told")])

    def test_each_kind_of_row(self):
        made = Program(ALL)
        for item, want in {
            ("s", "there"): [], ("s", "told"): there("s"),
            ("x.i", "there"): there("s"), ("x.i", "told"): told("s") + there("x.i"),
            ("x.j", "there"): there("t"), ("z.j", "there"): there("t"), ("z.j", "told"): told("t") + there("z.j"),
            ("x.a", "there"): there("x.i"), ("x.a", "told"): there("x.a"),
            ("x.b", "there"): there("x.i"), ("x.b", "told"): told("x.i", "x.j") + there("x.b"),
            ("z.h", "there"): there("z.i"), ("z.h", "told"): there("z.h"),
            ("x.w", "there"): there("x.i") + told("x.j"), ("x.w", "told"): told("x.i") + there("x.w"),
            ("x.c", "there"): there("x.j"), ("x.c", "told"): told("x.j", "x.w", "x.v") + there("x.c"),
            ("x.p", "there"): there("x.i"), ("x.p", "told"): told("x.i", "x.h") + there("x.p"),
            ("x", "there"): there("x.a"), ("x", "told"): told("x.a") + there("x"),
        }.items():
            self.exact(asks(made, item), want)

    def test_arguments_ask_at_their_own_place(self):
        made = read_program("""node low
in a count(2)
in b lot(no,yes)
out o
o = op not b
node main
in i lot(no,yes)
in j count(2)
out p
p = call low k k
k = op plus j j
""".replace("p = call low k k", "p = call low k i"))
        self.exact(asks(made, ("p.a", "there")), there("k"))
        self.exact(asks(made, ("p.b", "there")), there("i"))
        self.exact(asks(made, ("p.b", "told")), told("i") + there("p.b"))
        self.exact(asks(made, ("p.a", "told")), there("p.a") + told("k"))

    def test_each_is_told_once(self):
        made = read_program("""node n
in b lot(no,yes)
in i count(2)
out o
o = op plus i i
x = op and b x
y = op and y y
w = when b b yes
z = choose c c c
c = op not w
t = table count(2) 0 1 0 1 0 1 0 1 : i i i
""")
        self.exact(asks(made, ("o", "told")), told("i") + there("o"))
        self.exact(asks(made, ("x", "told")), told("b") + [("x", "there"), ("x", "told")])
        self.exact(asks(made, ("y", "told")), [("y", "there"), ("y", "told")])
        self.exact(asks(made, ("y", "there")), there("y"))
        self.exact(asks(made, ("w", "there")), [("b", "there"), ("b", "told")])
        self.exact(asks(made, ("z", "told")), [("z", "there"), ("c", "told")])
        self.exact(asks(made, ("t", "told")), told("i") + there("t"))

    def test_against_the_words(self):
        programs = [Program(nodes) for nodes in PROGRAMS.values()] + swift_programs(21, 60) + swift_programs(22, 60,
                                                                                                             True)
        for made in programs:
            order = items(made)
            graph = {item: asked_by_words(made, item) for item in order}
            for item in order:
                self.exact(asks(made, item), [other for other in order if other in graph[item]])
                met, waiting = set(), list(graph[item])
                while waiting:
                    other = waiting.pop()
                    if other not in met:
                        met.add(other)
                        waiting.extend(graph[other])
                self.exact(reach(made, item), [other for other in order if other in met])

    def test_reach(self):
        made = Program([SUM, TWICE])
        self.exact(reach(made, ("s", "there")), [])
        self.exact(reach(made, ("s", "told")), there("s"))
        self.exact(reach(made, ("p.n", "told")), there("s", "p.step", "p.n"))
        self.exact(reach(made, ("p.m", "there")), there("s", "p.step", "p.n"))
        self.exact(reach(made, ("p", "told")), [item for item in items(made) if item != ("p", "told")])
        made = Program([LOOP])
        self.exact(reach(made, ("a", "told")), [
            ("s", "there"), ("s", "told"), ("a", "there"), ("a", "told"), ("b", "there"), ("b", "told")])
        self.exact(reach(made, ("c", "told")), [("s", "there"), ("s", "told"), ("c", "there")])
        self.exact(reach(made, ("a", "there")), there("s"))

    def test_what_is_no_item(self):
        for made in [Program([SUM]), Program(ALL)]:
            first = items(made)[0]
            for item in [*NOTHINGS, "step", list(first), (first,), [first], (*first, "told"), (first[0], "absent"),
                         (first[0], None), (first[0], ("told",)), (first[0], ["told"]), ("there", first[0]),
                         ("qq", "told"),
                         (["s"], "told"), ({}, {}), ("", "there"), {first: first}]:
                for call in [asks, reach]:
                    self.apart(self.raised(UnknownName, {"name": item}, call, made, item), item)

    def test_new_lists(self):
        made = Program(NESTED)
        self.fresh(items, made)
        self.fresh(asks, made, ("o", "told"))
        self.fresh(reach, made, ("o", "told"))
        self.fresh(levels, made)


class TestLevels(Case):
    """levels, deepest"""

    def test_levels(self):
        self.exact(levels(Program([SUM])), {
            ("step", "there"): 1, ("step", "told"): 2, ("n", "there"): 2, ("n", "told"): 3, ("m", "there"): 3,
            ("m", "told"): 4})
        self.exact(deepest(Program([SUM])), 4)
        self.exact(levels(Program([HALVES])), {
            ("s", "there"): 1, ("s", "told"): 2, ("b", "there"): 1, ("b", "told"): 2, ("x", "there"): 3,
            ("x", "told"): 4,
            ("y", "there"): 3, ("y", "told"): 4, ("z", "there"): 2, ("z", "told"): 5})
        self.exact(deepest(Program([SUM, TWICE])), 6)

    def test_against_the_words(self):
        for made in swift_programs(23, 60) + swift_programs(24, 60, True):
            found = levels(made)
            self.exact(list(found), items(made))
            for item, level in found.items():
                self.exact(level, 1 + max([found[other] for other in asks(made, item)], default=0))
            self.exact(deepest(made), max(found.values()))

    def test_rounds_go_no_deeper(self):
        for made in swift_programs(25, 80):
            most = deepest(made)
            for state, inputs in some_ticks(made, 6):
                self.assertLessEqual(len(rounds(made, state, inputs)) - 1, most)

    def test_an_order_fills_with_values(self):
        for made in swift_programs(26, 40):
            streams = [stream for stream, word in sorted(levels(made), key=levels(made).get) if word == "told"]
            for state, inputs in some_ticks(made, 4):
                self.exact(filled_by(made, state, inputs, streams), filling(made, state, inputs))

    def test_rings(self):
        node = ("n", (("s", ("count", 3)), ("b", ("lot", ("no", "yes")))), ("o",), (
            (("o",), ("op", "plus", ("s", "s"))),
            (("w",), ("when", "s", "x", "yes")),
            (("x",), ("op", "not", ("y",))),
            (("y",), ("op", "same", ("w", "w")))))
        for made, streams in [(Program([LOOP]), ("a", "b")), (Program([WORST]), ("r",)),
                              (Program([node]), ("w", "x", "y")),
                              (Program([("n", (("i", ("count", 2)),), ("o",), (
                                  (("o",), ("op", "plus", ("o", "i"))),))]), ("o",))]:
            self.raised(Ring, {"streams": streams}, levels, made)
            self.raised(Ring, {"streams": streams}, deepest, made)
