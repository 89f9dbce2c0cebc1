"""Types, their values and places: [1.1] and [1.2]."""

import itertools

from cases import Case, NOTHINGS
from tickworks.errors import BadType, BadValue
from tickworks.texts import read_stream, read_value, stream_text, type_text, value_text
from tickworks.types import (
    YES_NO, check_type, is_value, many, place_of, value_at, values_of,
)

TWO = ("count", 2)
THREE = ("count", 3)
COLOURS = ("lot", ("red", "blue"))
BOTH = ("pair", COLOURS, TWO)
DEEP = ("pair", ("pair", COLOURS, TWO), THREE)
RIGHT_DEEP = ("pair", TWO, ("pair", THREE, COLOURS))

# Each type, and all its values, written out by another way than the package's.
GOOD = [
    (TWO, [0, 1]),
    (("count", 6), [0, 1, 2, 3, 4, 5]),
    (COLOURS, ["red", "blue"]),
    (YES_NO, ["no", "yes"]),
    (("lot", ("z", "a", "m", "b")), ["z", "a", "m", "b"]),
    (("lot", ("a", "abcdefgh")), ["a", "abcdefgh"]),
    (("lot", ("lot", "count")), ["lot", "count"]),
    (BOTH, list(itertools.product(["red", "blue"], [0, 1]))),
    (DEEP, [((a, b), c) for a in ["red", "blue"] for b in range(2) for c in range(3)]),
    (RIGHT_DEEP, [(a, (b, c)) for a in range(2) for b in range(3) for c in ["red", "blue"]]),
    (("pair", ("count", 6), ("count", 4)), list(itertools.product(range(6), range(4)))),
    (("pair", ("count", 4), ("lot", ("f", "e", "d", "c"))),
     list(itertools.product(range(4), ["f", "e", "d", "c"]))),
    (("pair", ("pair", TWO, THREE), ("count", 4)),
     [((a, b), c) for a in range(2) for b in range(3) for c in range(4)]),
]

# What is no type, and the path of BadType.
BAD = [(value, ()) for value in NOTHINGS] + [
    (("lot",), ()), (("count",), ()), (("pair",), ()),
    (["lot", ("a", "b")], ()), (["count", 3], ()), (["pair", TWO, TWO], ()),
    (("lots", ("a", "b")), ()), (("Count", 3), ()), (("pairs", TWO, TWO), ()), (("", TWO), ()),
    ((["lot"], ("a", "b")), ()), (({}, 3), ()), ((("count",), 3), ()), ((None, TWO, TWO), ()),
    (("lot", ("a", "b"), ()), ()), (("lot", ("a", "b"), ("c", "d")), ()), (("count", 3, 3), ()),
    (("count", 3, 3, 3), ()), (("lot", ("a", "b"), (), ()), ()), (("pair", TWO, TWO, TWO, TWO), ()),
    (("lot", ["a", "b"]), ()), (("lot", "ab"), ()), (("lot", {"a": 1, "b": 2}), ()),
    (("lot", None), ()), (("lot", 2), ()), (("lot", ()), ()), (("lot", ("a",)), ()),
    (("lot", ("a", "b", "c", "d", "e")), ()),
    (("lot", ("a", "")), ()), (("lot", ("a", "abcdefghi")), ()), (("lot", ("abcdefghi", "a")), ()),
    (("lot", ("a", "B")), ()), (("lot", ("a", "b1")), ()), (("lot", ("a", "b ")), ()),
    (("lot", (" ", "b")), ()), (("lot", ("a", "`")), ()), (("lot", ("a", "{")), ()),
    (("lot", ("a", "b\n")), ()), (("lot", ("a", "b-c")), ()),
    (("lot", ("a", 1)), ()), (("lot", ("a", None)), ()), (("lot", ("a", ("b",))), ()),
    (("lot", ("a", ["b"])), ()), (("lot", (["a"], ["b"])), ()), (("lot", ({}, {})), ()),
    (("lot", ("a", "a")), ()), (("lot", ("a", "b", "a")), ()), (("lot", ("a", "b", "b")), ()),
    (("lot", ("a", "b", "c", "a")), ()), (("lot", ("a", "b", "c", "c")), ()),
    (("count", 1), ()), (("count", 7), ()), (("count", 0), ()), (("count", -2), ()),
    (("count", True), ()), (("count", False), ()), (("count", "3"), ()), (("count", None), ()),
    (("count", (3,)), ()), (("count", [3]), ()), (("count", 10 ** 39), ()), (("count", ("a", "b")), ()),
    (("pair", TWO), ()), (("pair", TWO, TWO, TWO), ()), (("pair", (TWO, TWO)), ()),
    (("pair", 2, TWO), (1,)), (("pair", TWO, 2), (2,)), (("pair", None, None), (1,)),
    (("pair", ["count", 2], TWO), (1,)), (("pair", TWO, ["count", 2]), (2,)),
    (("pair", TWO, ("lot", ("red", "red"))), (2,)), (("pair", TWO, ("count", 7)), (2,)),
    (("pair", ("count", True), TWO), (1,)), (("pair", TWO, ("count", True)), (2,)),
]

# Where the wrong thing lies deep, and where several are wrong.
BAD_DEEP = [
    (("pair", ("pair", TWO, ("count", 9)), TWO), (1, 2)),
    (("pair", ("pair", ("count", 9), TWO), TWO), (1, 1)),
    (("pair", TWO, ("pair", ("lot", ("a",)), TWO)), (2, 1)),
    (("pair", TWO, ("pair", TWO, ("pair", TWO, "x"))), (2, 2, 2)),
    (("pair", ("pair", TWO, ("lot", ())), None), (1, 2)),
    (("pair", ("pair", TWO, 5), ("pair", 5, 5)), (1, 2)),
    (("pair", TWO, ("pair", 5, 5)), (2, 1)),
    (("pare", 5, 5), ()), (("pair", ("pare", 5, 5), 5), (1,)), (("pair", TWO, ("pair", 5)), (2,)),
    (("pair", ("lot", ("a", "b"), 1), ("count", 9)), (1,)),
    (("pair", ("pair", ("pair", TWO, TWO), ("pair", TWO, ("count", 1))), TWO), (1, 2, 2)),
    (("pair", ("count", 5), ("pair", ("count", 6), ("count", 7))), (2, 2)),
]


def nest(inner, depth):
    """A type's form with the inner one at this depth, by turns on either side."""
    for level in range(depth):
        inner = ("pair", inner, TWO) if level % 2 == 0 else ("pair", TWO, inner)
    return inner


# All forms are right, but there are too many tuples or values.
TOO_GREAT = [
    ("pair", ("count", 5), ("count", 5)),
    ("pair", ("count", 6), ("pair", TWO, THREE)),
    ("pair", ("pair", ("count", 5), TWO), THREE),
    ("pair", ("lot", ("a", "b", "c", "d")), ("pair", THREE, THREE)),
    ("pair", ("pair", TWO, TWO), ("pair", TWO, TWO)),
    ("pair", TWO, ("pair", TWO, ("pair", TWO, TWO))),
    ("pair", ("pair", ("pair", TWO, TWO), TWO), TWO),
    nest(TWO, 4), nest(TWO, 20), nest(("lot", ("a", "b")), 25),
]

GOOD_BOUNDS = [
    ("count", 2), ("count", 6), ("lot", ("a", "b")), ("lot", ("a", "b", "c", "d")),
    ("lot", ("abcdefgh", "z")), nest(TWO, 2), ("pair", TWO, ("pair", TWO, TWO)),
    ("pair", ("pair", TWO, TWO), TWO), ("pair", ("count", 6), ("count", 4)),
    ("pair", ("pair", ("count", 6), TWO), TWO), ("pair", TWO, ("pair", ("lot", tuple("abcd")), THREE)),
]


class TestTypes(Case):
    """[1.1]"""

    def test_types(self):
        for kind in [kind for kind, _ in GOOD] + GOOD_BOUNDS:
            self.assertIsNone(check_type(kind), kind)

    def test_yes_no(self):
        self.exact(YES_NO, ("lot", ("no", "yes")))

    def test_paths(self):
        for value, path in BAD + BAD_DEEP:
            with self.subTest(value=value):
                self.raised(BadType, {"path": path}, check_type, value)

    def test_too_great(self):
        for value in TOO_GREAT:
            with self.subTest(value=value):
                self.raised(BadType, {"path": ()}, check_type, value)

    def test_a_wrong_form_in_what_is_too_great(self):
        self.raised(BadType, {"path": (1, 2) * 10}, check_type, self.turned(("count", 1), 10))
        great = ("pair", ("count", 6), ("count", 6))
        self.raised(BadType, {"path": (2,)}, check_type, ("pair", great, ("count", 1)))
        self.raised(BadType, {"path": (1,)}, check_type, ("pair", ("lot", ("a", "a")), great))

    def turned(self, inner, times):
        """The inner one, on the second side of a first side, so many times."""
        for _ in range(times):
            inner = ("pair", ("pair", TWO, inner), TWO)
        return inner

    def test_a_great_thing_that_is_no_type(self):
        self.raised(BadType, {"path": ()}, check_type, ("lot", tuple(["a"] * 50000)))
        self.raised(BadType, {"path": ()}, check_type, tuple([TWO] * 30000))
        wide = TWO
        for _ in range(12):
            wide = ("pair", wide, wide)
        self.raised(BadType, {"path": ()}, check_type, wide)
        self.raised(BadType, {"path": (2,)}, check_type, ("pair", wide, "x"))

    def test_bad_type_in_every_call(self):
        calls = [
            (values_of,), (many,), (value_at, 0), (is_value, 0), (is_value, []), (place_of, 0),
            (place_of, [{}]), (type_text,), (value_text, 0), (value_text, [{}]), (stream_text, []),
            (stream_text, [[], {}]), (read_value, "0"), (read_value, []), (read_value, "#"),
            (read_stream, ""), (read_stream, {}), (read_stream, "#"),
        ]
        wrong = [([], ()), (("pair", TWO, ("count", True)), (2,)), (TOO_GREAT[0], ()), (BAD_DEEP[0][0], (1, 2))]
        for call, *rest in calls:
            for value, path in wrong:
                with self.subTest(call=call.__name__, value=value):
                    self.raised(BadType, {"path": path}, call, value, *rest)


# A type, a value that is none of it, and the path of BadValue.
WRONG_VALUES = [(COLOURS, value, ()) for value in NOTHINGS]
WRONG_VALUES += [(TWO, value, ()) for value in NOTHINGS if repr(value) not in ("0", "1")]
WRONG_VALUES += [(BOTH, value, (0,) if isinstance(value, tuple) and len(value) == 2 else ())
                 for value in NOTHINGS]
WRONG_VALUES += [
    (TWO, True, ()), (TWO, False, ()), (TWO, 2, ()), (TWO, -1, ()), (TWO, -2, ()), (TWO, "0", ()),
    (TWO, (0,), ()), (TWO, [0], ()), (TWO, {0: 0}, ()), (("count", 6), 6, ()), (TWO, "count", ()),
    (COLOURS, "green", ()), (COLOURS, "Red", ()), (COLOURS, "re", ()), (COLOURS, "redblue", ()),
    (COLOURS, 0, ()), (COLOURS, ("red",), ()), (COLOURS, ["red"], ()), (COLOURS, {"red": 1}, ()),
    (COLOURS, ("red", "blue"), ()), (COLOURS, "lot", ()),
    (BOTH, "red", ()), (BOTH, ("red",), ()), (BOTH, ("red", 0, 0), ()), (BOTH, ["red", 0], ()),
    (BOTH, {"red": 0}, ()), (BOTH, (), ()),
    (BOTH, ("green", 0), (0,)), (BOTH, ("red", 2), (1,)), (BOTH, ("green", 2), (0,)),
    (BOTH, (0, "red"), (0,)), (BOTH, ("red", True), (1,)), (BOTH, ("red", False), (1,)),
    (BOTH, ("red", None), (1,)), (BOTH, (None, 0), (0,)), (BOTH, ("red", (0,)), (1,)),
    (BOTH, (("red", 0), 0), (0,)), (BOTH, (["red"], [0]), (0,)), (BOTH, ("red", [0]), (1,)),
    (BOTH, ("red", -1), (1,)),
    (DEEP, (("red", 5), 9), (0, 1)), (DEEP, (("green", 5), 9), (0, 0)), (DEEP, (("red", 1), 3), (1,)),
    (DEEP, (["red", 1], 0), (0,)), (DEEP, (("red", 1, 0), 9), (0,)), (DEEP, ("red", 1, 0), ()),
    (DEEP, [("red", 1), 0], ()), (DEEP, (("red", True), 0), (0, 1)), (DEEP, (("red", 1), True), (1,)),
    (RIGHT_DEEP, (0, (3, "green")), (1, 0)), (RIGHT_DEEP, (0, (2, "green")), (1, 1)),
    (RIGHT_DEEP, (2, (3, "green")), (0,)), (RIGHT_DEEP, (0, [2, "red"]), (1,)),
    (RIGHT_DEEP, (True, (0, "red")), (0,)), (RIGHT_DEEP, (1, (True, "red")), (1, 0)),
]


class TestValues(Case):
    """[1.2]"""

    def test_values_and_places(self):
        for kind, values in GOOD:
            self.exact(values_of(kind), values)
            self.exact(many(kind), len(values))
            for place, value in enumerate(values):
                self.exact(value_at(kind, place), value)
                self.exact(place_of(kind, value), place)
                self.exact(is_value(kind, value), True)

    def test_wrong_values(self):
        for kind, value, path in WRONG_VALUES:
            with self.subTest(kind=kind, value=value):
                self.exact(is_value(kind, value), False)
                self.raised(BadValue, {"path": path}, place_of, kind, value)
                self.raised(BadValue, {"path": path}, value_text, kind, value)

    def test_values_of_other_types(self):
        for kind, values in GOOD:
            for _, others in GOOD:
                for value in others:
                    self.exact(is_value(kind, value), value in values)

    def test_new_lists(self):
        for kind, _ in GOOD:
            self.fresh(values_of, kind)

    def test_arguments_stay(self):
        for value, _ in BAD + BAD_DEEP:
            for call in [check_type, many]:
                with self.assertRaises(BadType):
                    self.untouched(call, value)
        for kind, value, _ in WRONG_VALUES:
            self.untouched(is_value, kind, value)
