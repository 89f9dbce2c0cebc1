"""Clockings that are judged: [4.3]."""

import itertools

from cases import Case, NOTHINGS
from drawn import drawn_programs
from tickworks.clocks import clocks, judge_clocks
from tickworks.errors import Ring
from tickworks.nodetexts import read_program

LOW = """node low
in s count(4)
in b lot(no,yes)
out z x
z = op not b
x = when s z yes
"""
# Each kind of equation on a clock of its own: b yes.
MAIN = """node main
in s count(4)
in b lot(no,yes)
in k lot(one,two,tre)
out z x
x = when s b yes
h = held count(4) 2 x x
t = table count(2) 0 1 0 1 : h
u = when b b yes
n m = call low x u : u no
v = when s b no
z = choose b v h
"""
BOTH = read_program(LOW + MAIN)
B = (("b", "yes"),)


def right():
    """A new dict of the clockings of BOTH."""
    return {node[0]: clocks(BOTH, node[0]) for node in BOTH.nodes()}


def changed(node, **clocks_told):
    """The right clockings, but for some streams of a node."""
    found = right()
    found[node].update(clocks_told)
    return found


class TestRight(Case):
    """Clockings that pass."""

    def test_told_ones(self):
        self.exact(judge_clocks(BOTH, right()), None)
        for odd in [False, True]:
            for made, kept in drawn_programs(13, 60, odd):
                self.exact(judge_clocks(made, {node[0]: clocks(made, node[0]) for node in made.nodes()}), None)
                self.exact(judge_clocks(made, kept), None)

    def test_the_order_of_keys_is_free(self):
        value = {name: dict(reversed(told.items())) for name, told in reversed(right().items())}
        self.exact(judge_clocks(BOTH, value), None)

    def test_arguments_stay(self):
        self.untouched(judge_clocks, BOTH, right())
        self.untouched(judge_clocks, BOTH, changed("low", z=[["b"]]))

    def test_rings_of_telling_streams_may_pass(self):
        made = read_program("node ring\nin i lot(no,yes)\nin j lot(no,yes)\nout n\nn = held lot(no,yes) no n n\n")
        with self.assertRaises(Ring):
            clocks(made, "ring")
        for clock, want in [
            ((), None), ((("i", "yes"),), None), ((("j", "no"), ("i", "yes")), None), ((("i", "yes"),) * 2, None),
            ((("i", "yes"), ("i", "no")), None), ((("n", "yes"),), None), ((("n", "yes"), ("n", "no")), None),
        ]:
            self.exact(judge_clocks(made, {"ring": {"i": (), "j": (), "n": clock}}), want)
        made = read_program("""node rings
in i lot(no,yes)
out p
p = op not q
q = op not p
r = when p q yes
""")
        for clock in [(), (("i", "no"),), (("p", "no"),)]:
            given = {"i": (), "p": clock, "q": clock, "r": clock + (("q", "yes"),)}
            self.exact(judge_clocks(made, {"rings": given}), None)
            self.exact(judge_clocks(made, {"rings": {**given, "q": (("i", "yes"),)}}), ("row", "rings", "p"))
            self.exact(judge_clocks(made, {"rings": {**given, "r": clock}}), ("row", "rings", "r"))
        clock = (("q", "no"),)
        given = {"i": (), "p": clock, "q": clock, "r": clock + (("q", "yes"),)}
        self.exact(judge_clocks(made, {"rings": given}), ("output", "rings", "p"))

    def test_no_other_clocking_passes_where_all_streams_have_clocks(self):
        made = read_program("""node n
in b lot(no,yes)
in s count(2)
out y
x = when s b no
y = op not b
z = op plus x x
""")
        words = [(cond, word) for cond in "by" for word in ("no", "yes")]
        some = [()] + [(pair,) for pair in words] + [(one, other) for one in words for other in words]
        passed = []
        for told in itertools.product(some, repeat=3):
            value = {"n": {"b": (), "s": (), **dict(zip("xyz", told))}}
            if judge_clocks(made, value) is None:
                passed.append(value["n"])
        self.exact(passed, [clocks(made, "n")])

    def test_no_single_change_passes(self):
        for made, _ in drawn_programs(14, 40, True):
            value = {node[0]: clocks(made, node[0]) for node in made.nodes()}
            for name, told in value.items():
                some = list(dict.fromkeys(told.values()))
                for stream, clock in told.items():
                    for other in some + [clock[:-1], clock[1:], clock + clock[:1]]:
                        found = judge_clocks(made, {**value, name: {**told, stream: other}})
                        self.assertEqual(found is None, other == clock)
                        self.assertTrue(found is None or found[0] in ("row", "output"))


class TestForms(Case):
    """Values that give no clocks."""

    def test_no_dict_of_the_nodes(self):
        for value in [*NOTHINGS, [right()], (right(),), list(right().items()), {"low": {}}, right()["main"],
                      {**right(), "more": {}}, {**right(), 0: {}}, {**right(), None: {}}, {**right(), ("low",): {}},
                      {"low": right()["low"], "MAIN": right()["main"]}, {"low": right()["low"], 1: right()["main"]}]:
            self.exact(judge_clocks(BOTH, value), ("form",))

    def test_no_dict_of_the_streams(self):
        for name in ["low", "main"]:
            told = right()[name]
            for given in [*NOTHINGS, [told], list(told.items()), {**told, "y": ()}, {**told, 3: ()}, {},
                          {**told, ("s",): ()}, {stream: told[stream] for stream in list(told)[1:]},
                          {stream: told[stream] for stream in list(told)[:-1]},
                          {("y" if stream == "b" else stream): told[stream] for stream in told}]:
                self.exact(judge_clocks(BOTH, {**right(), name: given}), ("streams", name))

    def test_no_clock(self):
        pairs = [None, (), ("b",), ("b", "yes", "b"), ["b", "yes"], "by", {"b": "yes"}, 0, ("b", ("yes",)), ("b", None),
                 ("b", "Yes"), ("b", "on"), ("b", 1), ("b", True), ("b", "one"), ("s", "yes"), ("s", 0), ("s", "no"),
                 ("y", "yes"), ("", "yes"), (0, "yes"), (None, "yes"), (("b",), "yes"), (["b"], "yes"), ({}, "yes"),
                 ("main", "yes"), ("n.z", "yes"), ("k", "yes"), ("k", "no"), ("h", "yes"), ("t", 0), ("yes", "b")]
        wrong = [None, 0, False, [], {}, "", "b", [("b", "yes")], ("b", "yes"), (("b", "yes"), "b")]
        wrong += [(pair,) for pair in pairs] + [(("b", "yes"), pair) for pair in pairs]
        for clock in wrong:
            for stream in right()["main"]:
                self.exact(judge_clocks(BOTH, changed("main", **{stream: clock})), ("clock", "main", stream))
        self.exact(judge_clocks(BOTH, changed("low", x=(("b", "maybe"),))), ("clock", "low", "x"))
        self.exact(judge_clocks(BOTH, changed("low", b=(("u", "no"),))), ("clock", "low", "b"))

    def test_clocks_whose_conds_stand_anywhere_are_clocks(self):
        for clock in [(("k", "tre"), ("u", "no")), B + B, (("b", "yes"), ("b", "no")), (("u", "no"), ("b", "yes"))]:
            self.exact(judge_clocks(BOTH, changed("main", x=clock)), ("row", "main", "x"))


class TestAgainst(Case):
    """Clockings that go against [4.1]."""

    def test_inputs(self):
        for stream in ["s", "b", "k"]:
            for clock in [B, (("k", "two"),), (("u", "no"), ("b", "no"))]:
                self.exact(judge_clocks(BOTH, changed("main", **{stream: clock})), ("row", "main", stream))
        self.exact(judge_clocks(BOTH, changed("main", s=B, b=B, x=())), ("row", "main", "s"))
        self.exact(judge_clocks(BOTH, changed("main", b=B, k=B)), ("row", "main", "b"))

    def test_each_kind_of_equation(self):
        given = {"s": (), "b": (), "e": (), "x": B, "y": B, "d": B}
        head = "node n\nin s count(4)\nin b lot(no,yes)\nout e\ne = op not b\n" \
               "x = when s b yes\ny = when s b yes\nd = when e b yes\n"
        for equation, told in [
            ("o = const count(2) 1 x", {"o": B}), ("o = held count(4) 1 x y", {"o": B}),
            ("o = op plus x y", {"o": B}), ("o = op not d", {"o": B}),
            ("o = table count(2) " + "0 " * 16 + ": x y", {"o": B}), ("o = when x d no", {"o": B + (("d", "no"),)}),
            ("o a = call low x d", {"o": B, "a": B + (("o", "yes"),)}),
            ("o a = call low x d : d no", {"o": B, "a": B + (("o", "yes"),)}),
        ]:
            made = read_program(LOW + head + equation + "\n")
            low = clocks(made, "low")
            fine = {**given, **told}
            self.exact(judge_clocks(made, {"low": low, "n": fine}), None)
            self.exact(fine, clocks(made, "n"))
            for name, clock in told.items():
                for other in [clock[:-1], clock + B, (("d", "no"),) * len(clock), (), clock[::-1]]:
                    if other != clock:
                        found = judge_clocks(made, {"low": low, "n": {**fine, name: other}})
                        self.exact(found, ("row", "n", "o"))

    def test_each_operand(self):
        # Each operand is a ring of telling streams by itself, so that it may be on any clock.
        head = "node n\nin s count(4)\nin b lot(no,yes)\nout e\ne = op not b\n"
        ring = "x = held count(4) 0 x x\ny = held count(4) 0 y y\nd = op not d\nf = op not f\n"
        for equation, streams in [
            ("o = const count(2) 1 x", "x"), ("o = held count(4) 1 x y", "xy"), ("o = op plus x y", "xy"),
            ("o = op and d f", "df"), ("o = table count(2) " + "0 " * 16 + ": d x f", "dxf"),
            ("o = when x d no", "xd"), ("o a = call low x d : f no", "xdf"),
        ]:
            made = read_program(LOW + head + ring + equation + "\n")
            low = clocks(made, "low")
            for clock in [(), B]:
                told = {"s": (), "b": (), "e": (), **{stream: clock for stream in "xydf"}}
                told["o"] = clock + (("d", "no"),) if "when" in equation else clock
                if "call" in equation:
                    told["a"] = clock + (("o", "yes"),)
                self.exact(judge_clocks(made, {"low": low, "n": told}), None)
                for stream in streams:
                    for other in [B[:1 - len(clock)], (("b", "no"),), B + B, (("e", "yes"),)]:
                        if other != clock:
                            found = judge_clocks(made, {"low": low, "n": {**told, stream: other}})
                            self.exact(found, ("row", "n", "o"))

    def test_choose(self):
        head = "node n\nin s count(4)\nin k lot(one,two,tre)\nout e\ne = op plus s s\n"
        text = "a = held count(4) 0 a a\nc = held count(4) 0 c c\nd = held count(4) 0 d d\n" \
               "f = table lot(one,two,tre) one two tre : f\no = choose f a c d\n"
        made = read_program(head + text)
        for clock in [(), (("k", "two"),)]:
            told = {"s": (), "k": (), "e": (), "a": clock + (("f", "one"),), "c": clock + (("f", "two"),),
                    "d": clock + (("f", "tre"),), "f": clock, "o": clock}
            self.exact(judge_clocks(made, {"n": told}), None)
            for stream in "acdfo":
                for other in [clock + (("f", "one"),), clock + (("f", "two"),), clock, clock + (("k", "one"),), ()]:
                    if other != told[stream]:
                        self.exact(judge_clocks(made, {"n": {**told, stream: other}}), ("row", "n", "o"))

    def test_calls_by_the_clocks_that_value_gives(self):
        ring = "node ring\nin i lot(no,yes)\nin j lot(no,yes)\nout n m\nn = held lot(no,yes) no n n\n" \
               "m = held lot(no,yes) no m m\n"
        made = read_program(ring + "node main\nin a lot(no,yes)\nout o\no = op not a\np q = call ring a o\n")
        for n, m, p, q in [
            ((), (), (), ()), ((("i", "yes"),), (), (("a", "yes"),), ()), ((("j", "no"),), (), (("o", "no"),), ()),
            ((), (("n", "yes"), ("i", "no")), (), (("p", "yes"), ("a", "no"))),
            ((("m", "no"),), (("n", "yes"),), (("q", "no"),), (("p", "yes"),)),
        ]:
            inner = {"i": (), "j": (), "n": n, "m": m}
            told = {"a": (), "o": (), "p": p, "q": q}
            self.exact(judge_clocks(made, {"ring": inner, "main": told}), None)
            self.exact(judge_clocks(made, {"ring": inner, "main": {**told, "p": (("o", "yes"),)}}),
                       ("row", "main", "p"))
            self.exact(judge_clocks(made, {"ring": inner, "main": {**told, "q": (("a", "yes"),) * 2}}),
                       ("row", "main", "p"))

    def test_outputs(self):
        self.exact(judge_clocks(BOTH, right()), None)
        text = "node n\nin b lot(no,yes)\nout {}\nz = op not b\nx = when b z yes\nw = when z z yes\ny = when x w no\n"
        for outputs, want in [
            ("z x", None), ("x z", None), ("x", "x"), ("w x", "w"), ("x y", "x"), ("z y w", None), ("z y", "y"),
            ("w y", "w"), ("y w", "y"),
        ]:
            made = read_program(text.format(outputs))
            z = (("z", "yes"),)
            told = {"b": (), "z": (), "x": z, "w": z, "y": z + (("w", "no"),)}
            self.exact(judge_clocks(made, {"n": told}), None if want is None else ("output", "n", want))

    def test_the_first_fault(self):
        wrong = [
            (changed("low", z=(("q", "no"),), x=0), ("clock", "low", "z")),
            (changed("low", x=0, s=B), ("clock", "low", "x")),
            (changed("low", x=(), s=B), ("row", "low", "s")), (changed("low", x=(), z=B), ("row", "low", "z")),
            ({**changed("low", x=()), "main": 3}, ("row", "low", "x")),
            ({**changed("low", x=()), "main": {}, "more": {}}, ("form",)),
            ({"low": {}, "main": {}}, ("streams", "low")), ({"low": right()["low"], "main": {}}, ("streams", "main")),
            (changed("main", x=(), h=None), ("clock", "main", "h")), (changed("main", x=()), ("row", "main", "x")),
            (changed("main", h=(), t=()), ("row", "main", "h")), (changed("main", t=(), z=B), ("row", "main", "t")),
            (changed("main", u=(), v=()), ("row", "main", "u")), (changed("main", m=B, z=B), ("row", "main", "n")),
            (changed("main", v=()), ("row", "main", "v")), (changed("main", v=B, z=B), ("row", "main", "v")),
            (changed("main", z=B), ("row", "main", "z")),
        ]
        for value, want in wrong:
            self.exact(judge_clocks(BOTH, value), want)
        made = read_program(LOW.replace("out z x", "out x") + MAIN.replace("n m = call low x u : u no\n", ""))
        low = {"s": (), "b": (), "z": (), "x": (("z", "yes"),)}
        self.exact(judge_clocks(made, {"low": low, "main": {}}), ("output", "low", "x"))
        self.exact(judge_clocks(made, {"low": {**low, "z": B}, "main": {}}), ("row", "low", "z"))
