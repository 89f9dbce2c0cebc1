"""The types of streams, and equations that do not fit: [2.3]."""

from cases import Case, NOTHINGS
from samples import (
    ALL, BOTH, COLOURS, FOUR, KEYWORDS, LOW, NESTED, OPS, PROGRAMS, SUM, THREE, TWICE, TWO, YES_NO,
)
from tickworks.errors import MixedTypes, UnknownName
from tickworks.nodes import Program, type_at

FIVE = ("count", 5)
MAIN = ("main", (("i", TWO),), ("o",), ((("o",), ("op", "plus", ("i", "i"))),))
INPUTS = (("t", TWO), ("h", THREE), ("y", YES_NO), ("p", BOTH))


def program(equations, inputs=INPUTS, ahead=()):
    """A program in which a node "n" has these equations; main does not call it."""
    told = [name for names, _ in equations for name in names]
    return Program([*ahead, ("n", inputs, (told[0],), tuple(equations)), MAIN])


def op(name, word, *args):
    """An equation of an op."""
    return ((name,), ("op", word, args))


class TestTypes(Case):
    """The types that passes find."""

    def types(self, equations, want, inputs=INPUTS, ahead=()):
        """Checks the types of the names of equations, in their order."""
        made = program(equations, inputs, ahead)
        streams = made.streams_at("n")
        self.exact(streams[:len(inputs)], list(inputs))
        told = [name for names, _ in equations for name in names]
        self.exact(streams[len(inputs):], list(zip(told, want)))
        for name, kind in streams:
            self.exact(type_at(made, "n", name), kind)

    def test_each_right_side(self):
        rights = [
            (("const", BOTH, ("red", 0), "t"), BOTH), (("table", COLOURS, ("red", "blue"), ("t",)), COLOURS),
            (("held", THREE, 2, "h", "y"), THREE), (("op", "not", ("y",)), YES_NO),
            (("op", "and", ("y", "y")), YES_NO), (("op", "or", ("y", "y")), YES_NO),
            (("op", "same", ("p", "p")), YES_NO), (("op", "less", ("h", "h")), YES_NO),
            (("op", "plus", ("h", "h")), THREE), (("op", "pair", ("y", "h")), ("pair", YES_NO, THREE)),
            (("op", "first", ("p",)), COLOURS), (("op", "second", ("p",)), TWO),
            (("when", "p", "y", "yes"), BOTH), (("choose", "y", ("h", "h")), THREE),
        ]
        for right, kind in rights:
            self.types([(("x",), right)], [kind])

    def test_calls(self):
        self.types([(("m",), ("call", "sum", ("f",), None))], [FOUR], (("f", FOUR),), (SUM,))
        streams = Program(ALL).streams_at("main")
        self.exact(streams, [("s", TWO), ("t", YES_NO), ("x", BOTH), ("y", TWO), ("z", BOTH), ("q", TWO)])
        streams = Program(NESTED).streams_at("outer")
        self.exact(streams, [("k", FOUR), ("r", COLOURS), ("c", YES_NO), ("o", FOUR), ("u", FOUR),
                             ("last", FOUR), ("e", FOUR)])
        self.exact(Program(KEYWORDS).streams_at("node"),
                   [("when", YES_NO), ("choose", TWO), ("table", TWO), ("const", TWO)])

    def test_all_ops(self):
        kinds = [TWO, THREE, YES_NO, ("pair", TWO, THREE), TWO, THREE, YES_NO, YES_NO, YES_NO, YES_NO, YES_NO]
        self.exact([kind for _, kind in Program([OPS]).streams_at("ops")], kinds)

    def test_equations_in_any_order(self):
        equations = [
            op("a", "second", "b"), op("b", "pair", "c", "d"), op("c", "plus", "e", "e"),
            op("d", "first", "g"), (("e",), ("when", "f", "y", "no")), op("f", "plus", "h", "h"),
            op("g", "pair", "y", "y"),
        ]
        want = [YES_NO, ("pair", THREE, YES_NO), THREE, YES_NO, THREE, THREE, ("pair", YES_NO, YES_NO)]
        self.types(equations, want)
        backwards = list(reversed(equations))
        self.types(backwards, list(reversed(want)))

    def test_rings_that_get_types(self):
        self.types([op("a", "plus", "a", "h")], [THREE])
        self.types([op("a", "plus", "b", "h"), op("b", "plus", "a", "a")], [THREE, THREE])
        self.types([(("a",), ("choose", "y", ("a", "h"))), op("b", "plus", "a", "h")], [THREE, THREE])
        self.types([(("a",), ("choose", "y", ("h", "a")))], [THREE])
        self.types([op("a", "not", "a")], [YES_NO])
        self.types([(("a",), ("held", THREE, 0, "a", "a"))], [THREE])
        self.types([(("a",), ("const", THREE, 0, "a"))], [THREE])
        self.types([(("a",), ("choose", "a", ("b", "b"))), op("b", "not", "a")], [YES_NO, YES_NO])

    def test_a_call_in_a_ring(self):
        call = (("m",), ("call", "sum", ("m",), None))
        self.types([op("a", "plus", "m", "m"), call], [FOUR, FOUR], INPUTS, (SUM,))
        call = (("u", "v"), ("call", "low", ("v", "y"), ("y", "no")))
        self.types([op("a", "plus", "v", "t"), call], [TWO, BOTH, TWO], INPUTS, (LOW,))

    def test_unknown_names(self):
        made = Program([SUM, TWICE])
        for name in [*NOTHINGS, "nowhere", "m", "step", ("sum",), ["two"]]:
            caught = self.raised(UnknownName, {"name": name}, type_at, made, name, "m")
            self.apart(caught, name)
            self.raised(UnknownName, {"name": name}, type_at, made, name, [name])
        for name in [*NOTHINGS, "nowhere", "p", "sum", ("m",), ["m"]]:
            caught = self.raised(UnknownName, {"name": name}, type_at, made, "sum", name)
            self.apart(caught, name)
        for nodes in PROGRAMS.values():
            made = Program(nodes)
            for name, *_ in nodes:
                self.assertEqual(dict(made.streams_at(name)),
                                 {word: type_at(made, name, word) for word, _ in made.streams_at(name)})


class TestMixed(Case):
    """MixedTypes(node, stream)"""

    def mixed(self, stream, equations, inputs=INPUTS, ahead=()):
        """Checks that the equation of this stream is the first one that does not fit."""
        self.raised(MixedTypes, {"node": "n", "stream": stream}, program, equations, inputs, ahead)

    def test_each_right_side(self):
        rights = [
            ("op", "not", ("t",)), ("op", "not", ("p",)), ("op", "and", ("y", "t")), ("op", "and", ("t", "y")),
            ("op", "or", ("t", "y")), ("op", "or", ("y", "h")), ("op", "same", ("t", "h")),
            ("op", "same", ("y", "p")), ("op", "less", ("h", "t")), ("op", "less", ("y", "t")),
            ("op", "plus", ("t", "h")), ("op", "plus", ("h", "t")), ("op", "plus", ("y", "y")),
            ("op", "plus", ("p", "p")), ("op", "first", ("t",)), ("op", "second", ("y",)),
            ("table", TWO, (0, 1), ("h",)), ("table", TWO, (0, 1, 0, 1), ("h",)), ("table", TWO, (0,), ("t",)),
            ("table", TWO, (0, 1, 0, 1, 0), ("t", "h")), ("table", TWO, (0,) * 7, ("t", "h")),
            ("table", TWO, (0, 1, 0), ("p",)), ("table", TWO, (0, 1, 0, 1, 0), ("p",)),
            ("held", TWO, 0, "h", "t"), ("held", THREE, 0, "t", "h"), ("held", YES_NO, "no", "p", "y"),
            ("when", "t", "h", "yes"), ("when", "t", "y", "maybe"), ("when", "t", "p", "red"),
            ("when", "t", "y", "red"), ("choose", "t", ("h", "h")), ("choose", "y", ("h",)),
            ("choose", "y", ("h", "h", "h")), ("choose", "y", ("h", "t")), ("choose", "y", ("t", "h")),
            ("choose", "p", ("h", "h")), ("choose", "h", ("t", "t", "t")),
        ]
        for right in rights:
            with self.subTest(right=right):
                self.mixed("x", [(("x",), right)])
                self.mixed("x", [(("a",), ("op", "plus", ("t", "t"))), (("x",), right)])

    def test_lots_are_the_same_only_if_their_words_are(self):
        inputs = (("a", ("lot", ("no", "yes"))), ("b", ("lot", ("yes", "no"))), ("c", ("lot", ("no", "yes", "x"))))
        for right in [("op", "not", ("b",)), ("op", "not", ("c",)), ("op", "same", ("a", "b")),
                      ("op", "and", ("a", "b")), ("choose", "a", ("a", "b")), ("choose", "c", ("a", "a")),
                      ("held", YES_NO, "no", "b", "a"), ("op", "less", ("a", "c"))]:
            self.mixed("x", [(("x",), right)], inputs)

    def test_right_ones_of_words(self):
        three = ("lot", ("a", "b", "c"))
        inputs = (("l", three), ("t", TWO))
        for word in ["a", "b", "c"]:
            self.exact(type_at(program([(("x",), ("when", "t", "l", word))], inputs), "n", "x"), TWO)
        self.exact(type_at(program([(("x",), ("choose", "l", ("t", "t", "t")))], inputs), "n", "x"), TWO)
        self.mixed("x", [(("x",), ("choose", "l", ("t", "t")))], inputs)
        self.mixed("x", [(("x",), ("choose", "l", ("t", "t", "t", "t")))], inputs)
        self.mixed("x", [(("x",), ("choose", "l", ("t", "t", "l")))], inputs)

    def test_pairs_that_are_no_types(self):
        inputs = (("a", FIVE), ("b", FIVE), ("y", YES_NO))
        pair = op("p", "pair", "a", "b")
        self.mixed("p", [pair], inputs)
        self.mixed("p", [op("f", "first", "p"), op("s", "second", "p"), pair], inputs)
        self.mixed("p", [op("f", "first", "p"), op("g", "plus", "f", "a"), pair], inputs)
        fits = (("t",), ("table", TWO, (1,) * 25, ("p",)))
        for many in (24, 26):
            self.mixed("t", [(("t",), ("table", TWO, (1,) * many, ("p",))), pair], inputs)
        self.mixed("p", [fits, pair], inputs)
        self.mixed("p", [pair, (("t",), ("table", TWO, (1,) * 24, ("p",)))], inputs)
        self.mixed("t", [(("t",), ("table", TWO, (1,) * 50, ("p", "a"))), pair], inputs)
        self.mixed("q", [op("q", "pair", "p", "p"), pair], inputs)
        self.mixed("p", [(("w",), ("when", "p", "y", "no")), pair], inputs)

    def test_pairs_of_too_many_tuples(self):
        inputs = (("a", ("pair", TWO, ("pair", TWO, TWO))), ("b", TWO))
        self.mixed("p", [op("p", "pair", "a", "b")], inputs)
        equations = [(("t",), ("table", TWO, (1,) * 16, ("p",))), op("p", "pair", "b", "a")]
        self.mixed("p", equations, inputs)

    def test_pairs_within_the_bounds(self):
        inputs = (("a", ("pair", TWO, THREE)), ("b", FOUR), ("c", ("count", 6)))
        self.exact(type_at(program([op("p", "pair", "a", "b")], inputs), "n", "p"), ("pair", inputs[0][1], FOUR))
        self.exact(type_at(program([op("p", "pair", "b", "c")], inputs), "n", "p"), ("pair", FOUR, ("count", 6)))
        self.mixed("p", [op("p", "pair", "c", "a")], inputs)

    def test_equations_without_types(self):
        self.mixed("a", [op("a", "plus", "a", "a")])
        self.mixed("a", [op("a", "first", "a")])
        self.mixed("a", [op("a", "pair", "a", "t")])
        self.mixed("a", [op("a", "first", "b"), op("b", "plus", "t", "t")])
        self.mixed("a", [op("a", "plus", "b", "b"), op("b", "plus", "a", "a")])
        self.mixed("a", [(("a",), ("when", "a", "y", "yes"))])
        self.mixed("a", [(("a",), ("choose", "y", ("a", "a")))])
        self.mixed("a", [op("a", "same", "b", "b"), op("b", "second", "b")])
        self.mixed("a", [(("a",), ("const", TWO, 0, "b")), op("b", "plus", "b", "b")])
        self.mixed("a", [(("a",), ("held", TWO, 0, "t", "b")), op("b", "plus", "b", "b")])
        self.mixed("a", [(("a",), ("when", "t", "b", "yes")), op("b", "plus", "b", "b")])
        self.mixed("a", [(("a",), ("table", TWO, (0, 1), ("b",))), op("b", "plus", "b", "b")])
        self.mixed("b", [op("a", "not", "y"), op("b", "plus", "b", "b")])

    def test_what_is_found_holds_at_once(self):
        witness = op("w", "same", "a", "h")
        told = [witness, (("b",), ("const", THREE, 0, "t")), op("a", "plus", "b", "t")]
        self.mixed("a", told)

    def test_what_is_found_stays(self):
        told = [op("w", "same", "a", "t"), op("a", "plus", "b", "t"), (("b",), ("const", THREE, 0, "t"))]
        self.mixed("a", told)
        told = [op("w", "same", "a", "t"), (("a",), ("choose", "y", ("b", "t"))), (("b",), ("const", THREE, 0, "t"))]
        self.mixed("a", told)
        told = [op("w", "same", "a", "h"), op("a", "plus", "b", "t"), (("b",), ("const", THREE, 0, "t"))]
        self.mixed("w", told)

    def test_the_first_operand_with_a_type(self):
        self.mixed("a", [op("w", "same", "a", "t"), op("a", "plus", "t", "h")])
        self.mixed("a", [op("w", "same", "a", "h"), op("a", "plus", "h", "t")])
        self.mixed("a", [op("w", "same", "a", "h"), (("a",), ("choose", "y", ("h", "t")))])
        self.mixed("w", [op("w", "same", "a", "t"), op("a", "plus", "h", "t")])

    def test_truths_of_wrong_operands(self):
        self.mixed("a", [op("w", "not", "a"), op("a", "not", "t")])
        self.mixed("a", [op("w", "not", "a"), op("a", "same", "t", "h")])
        self.mixed("a", [op("w", "not", "a"), op("a", "less", "b", "h"), op("b", "plus", "b", "b")])

    def test_names_of_an_equation(self):
        for right in [("op", "plus", ("t", "t")), ("const", TWO, 0, "t"), ("held", TWO, 0, "t", "t"),
                      ("table", TWO, (0, 1), ("t",)), ("when", "t", "y", "no"), ("choose", "y", ("t", "t"))]:
            self.mixed("a", [(("a", "b"), right)])
            self.mixed("w", [op("w", "plus", "b", "b"), (("a", "b"), right)])
            self.mixed("a", [op("w", "plus", "a", "a"), (("a", "b"), right)])
        self.mixed("b", [(("b", "a"), ("op", "plus", ("t", "t")))])

    def test_calls(self):
        ahead = (LOW,)
        right = ("call", "low", ("t", "y"), ("y", "yes"))
        self.exact(program([(("a", "b"), right)], INPUTS, ahead).streams_at("n")[4:], [("a", BOTH), ("b", TWO)])
        wrong = [
            (("a",), right), (("a", "b", "c"), right), (("a", "b"), ("call", "low", ("t",), None)),
            (("a", "b"), ("call", "low", ("t", "y", "y"), None)), (("a", "b"), ("call", "low", ("y", "t"), None)),
            (("a", "b"), ("call", "low", ("t", "t"), None)), (("a", "b"), ("call", "low", ("h", "y"), None)),
            (("a", "b"), ("call", "low", ("t", "y"), ("t", "yes"))),
            (("a", "b"), ("call", "low", ("t", "y"), ("y", "red"))),
            (("a", "b"), ("call", "low", ("t", "y"), ("p", "red"))),
            (("a", "b"), ("call", "low", ("t",), ("y", "yes"))),
            (("a", "b"), ("call", "low", ("t", "y", "y"), ("y", "yes"))),
            (("a", "b"), ("call", "low", ("t", "y"), ("u", "yes"))),
            (("a", "b"), ("call", "low", ("u", "y"), None)),
        ]
        unknown = op("u", "plus", "u", "u")
        for equation in wrong:
            with self.subTest(equation=equation):
                self.mixed("a", [equation, unknown], INPUTS, ahead)

    def test_calls_give_types_as_far_as_both_go(self):
        ahead = (LOW,)
        short = (("a",), ("call", "low", ("t", "y"), None))
        self.mixed("a", [op("w", "first", "a"), short], INPUTS, ahead)
        self.mixed("w", [op("w", "plus", "a", "t"), short], INPUTS, ahead)
        long = (("a", "b", "c"), ("call", "low", ("t", "y"), None))
        self.mixed("a", [op("w", "plus", "b", "t"), long], INPUTS, ahead)
        self.mixed("w", [op("w", "same", "c", "c"), long], INPUTS, ahead)
        wrong = (("a", "b"), ("call", "low", ("y",), ("t", "x")))
        self.mixed("a", [op("v", "first", "a"), op("w", "plus", "b", "t"), wrong], INPUTS, ahead)

    def test_which_one_is_told(self):
        good, bad = op("g", "plus", "t", "t"), op("x", "plus", "t", "h")
        self.mixed("x", [good, bad, op("z", "not", "t")])
        self.mixed("z", [good, op("z", "not", "t"), bad])
        first = ("first", INPUTS, ("x",), (bad,))
        second = ("second", INPUTS, ("z",), (op("z", "not", "t"),))
        self.raised(MixedTypes, {"node": "first", "stream": "x"}, Program, [first, second])
        self.raised(MixedTypes, {"node": "second", "stream": "z"}, Program, [second, first])
        self.raised(MixedTypes, {"node": "second", "stream": "z"}, Program, [SUM, second, MAIN, first])

    def test_a_const_is_like_anything(self):
        for like in ["t", "h", "y", "p"]:
            self.exact(type_at(program([(("x",), ("const", TWO, 1, like))]), "n", "x"), TWO)
            self.exact(type_at(program([(("x",), ("held", TWO, 1, "t", like))]), "n", "x"), TWO)
