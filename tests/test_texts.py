"""Texts of types, values and streams: [1.3] and [1.4]."""

import re

from automaton import edits, text_grammar, type_grammar, wrong_place
from cases import Case, NOTHINGS
from tickworks.errors import BadText, BadType, BadValue
from tickworks.texts import (
    read_stream, read_type, read_value, stream_text, type_text, value_text,
)
from tickworks.types import YES_NO, check_type, values_of

TWO = ("count", 2)
COLOURS = ("lot", ("red", "blue"))
BOTH = ("pair", COLOURS, TWO)
DEEP = ("pair", ("pair", COLOURS, TWO), ("count", 3))
NEAR = ("lot", ("a", "ab", "abc", "b"))

TYPE_TEXTS = [
    (TWO, "count(2)"), (("count", 6), "count(6)"), (COLOURS, "lot(red,blue)"),
    (("lot", ("a", "b", "c")), "lot(a,b,c)"), (("lot", ("a", "b", "c", "d")), "lot(a,b,c,d)"),
    (("lot", ("lot", "count", "pair")), "lot(lot,count,pair)"),
    (("lot", ("abcdefgh", "z")), "lot(abcdefgh,z)"),
    (BOTH, "pair(lot(red,blue),count(2))"),
    (DEEP, "pair(pair(lot(red,blue),count(2)),count(3))"),
    (("pair", TWO, ("pair", ("count", 4), YES_NO)), "pair(count(2),pair(count(4),lot(no,yes)))"),
]

VALUE_TEXTS = [
    (TWO, 0, "0"), (("count", 6), 5, "5"), (COLOURS, "red", "red"),
    (BOTH, ("blue", 1), "(blue,1)"), (DEEP, (("red", 0), 2), "((red,0),2)"),
    (("pair", TWO, ("pair", ("count", 4), YES_NO)), (1, (3, "no")), "(1,(3,no))"),
]


def told_by(text):
    """The tuple that a right text of a type tells, by another way than the package's."""
    quoted = re.sub(r"[a-z]+", lambda found: repr(found.group()), text)
    quoted = re.sub(r"'lot'\(([^()]*)\)", r"('lot',(\1))", quoted)
    quoted = re.sub(r"'(count|pair)'\(", r"('\1',", quoted)
    return eval(quoted)


class TestWriting(Case):
    """[1.3]"""

    def test_types(self):
        for kind, text in TYPE_TEXTS:
            self.exact(type_text(kind), text)
            self.exact(read_type(text), kind)

    def test_values(self):
        for kind, value, text in VALUE_TEXTS:
            self.exact(value_text(kind, value), text)
            self.exact(read_value(kind, text), value)

    def test_all_values_come_back(self):
        for kind, _ in TYPE_TEXTS:
            texts = [value_text(kind, value) for value in values_of(kind)]
            self.assertEqual(len(set(texts)), len(texts))
            self.exact([read_value(kind, text) for text in texts], values_of(kind))

    def test_streams(self):
        self.exact(stream_text(YES_NO, ["yes", None, "no"]), "yes - no")
        self.exact(stream_text(YES_NO, []), "")
        self.exact(stream_text(YES_NO, ()), "")
        self.exact(stream_text(YES_NO, ("no",)), "no")
        self.exact(stream_text(TWO, [None, None]), "- -")
        self.exact(stream_text(TWO, [None]), "-")
        self.exact(stream_text(BOTH, [("red", 1), None, ("blue", 0)]), "(red,1) - (blue,0)")

    def test_wrong_ticks(self):
        wrong = [
            (BOTH, [("red", 1), ("red", 2)], (1, 1)), (BOTH, [("green", 2)], (0, 0)),
            (BOTH, [None, None, ("red", None)], (2, 1)), (BOTH, [(None, 0)], (0, 0)),
            (BOTH, [("red", True)], (0, 1)), (BOTH, ["red"], (0,)), (BOTH, [("red", 0), ()], (1,)),
            (BOTH, [["red", 0]], (0,)), (BOTH, [("red", 0), ("red", 5), "x"], (1, 1)),
            (TWO, [0, 1, 2], (2,)), (TWO, [0, True, 5], (1,)), (TWO, [None, False], (1,)),
            (TWO, ("-",), (0,)), (TWO, [[]], (0,)), (TWO, [0, {}], (1,)),
            (DEEP, [(("red", 0), 0), (("red", 9), 0)], (1, 0, 1)),
        ]
        for kind, ticks, path in wrong:
            with self.subTest(kind=kind, ticks=ticks):
                self.raised(BadValue, {"path": path}, stream_text, kind, ticks)
                self.raised(BadValue, {"path": path}, stream_text, kind, tuple(ticks))

    def test_none_is_no_value(self):
        self.raised(BadValue, {"path": ()}, value_text, TWO, None)
        self.raised(BadValue, {"path": ()}, value_text, YES_NO, "-")
        self.raised(BadValue, {"path": (1,)}, value_text, BOTH, ("red", None))

    def test_arguments_stay(self):
        ticks = [("red", 1), None, ["red", [1]], {"a": []}]
        with self.assertRaises(BadValue):
            self.untouched(stream_text, BOTH, ticks)
        self.untouched(stream_text, BOTH, [("red", 1), None])


class TestReadType(Case):
    """[1.4] of types."""

    def check_read(self, text):
        """Checks what read_type does with a text, against the automaton."""
        place = wrong_place(type_grammar(), "T1", text)
        if place is not None:
            self.raised(BadText, {"place": place}, read_type, text)
            return
        told = told_by(text)
        try:
            check_type(told)
        except BadType as error:
            self.raised(BadType, {"path": error.path}, read_type, text)
            return
        self.exact(read_type(text), told)

    def test_edited_texts(self):
        texts = [
            "count(2)", "lot(a,b)", "lot(red,blue)", "lot(a,bc,d,e)", "lot(abcdefgh,x)",
            "pair(lot(a,b),count(3))", "pair(pair(count(2),count(3)),lot(a,b,c))",
            "pair(count(2),pair(count(2),pair(count(2),pair(count(2),count(2)))))",
        ]
        for text in texts:
            for edited in edits(text):
                with self.subTest(text=edited):
                    self.check_read(edited)

    def test_places(self):
        places = [
            ("", 0), ("x", 0), (" count(2)", 0), ("(", 0), ("2", 0), ("l", 1), ("lot", 3), ("lot(", 4),
            ("lot()", 4), ("lot(a)", 5), ("lot(a", 5), ("lot(a,", 6), ("lot(a,)", 6), ("lot(a,b", 7),
            ("lot(a, b)", 6), ("lot(a,b))", 8), ("lot(a,b) ", 8), ("lot(a,b,c,d,e)", 11),
            ("lot(a,b,c,d,", 11), ("lot(abcdefghi,b)", 12), ("lot(a,abcdefghi)", 14),
            ("lot(A,b)", 4), ("lot(a1,b)", 5), ("count(1)", 6), ("count(7)", 6), ("count(0)", 6),
            ("count(22)", 7), ("count(2", 7), ("count()", 6), ("count(-2)", 6), ("count(a)", 6),
            ("Count(2)", 0), ("cound(2)", 4), ("pair(count(2))", 13), ("pair(count(2),)", 14),
            ("pair(count(2),count(2),count(2))", 22), ("pair(count(2), count(2))", 14), ("pair(", 5),
            ("count(2)\n", 8), ("count(2)count(2)", 8), ("lott(a,b)", 3),
        ]
        for text, place in places:
            with self.subTest(text=text):
                self.raised(BadText, {"place": place}, read_type, text)

    def test_five_within_one_another(self):
        five = "pair(" * 4 + "count(2)" + ",count(2))" * 4
        self.raised(BadType, {"path": ()}, read_type, five)
        right = "pair(count(2)," * 4 + "count(2)" + ")" * 4
        self.raised(BadType, {"path": ()}, read_type, right)
        six = "pair(" * 5 + "count(2)" + ",count(2))" * 5
        self.raised(BadText, {"place": 20}, read_type, six)
        turned = "pair(count(2)," * 5 + "count(2)" + ")" * 5
        self.raised(BadText, {"place": 56}, read_type, turned)
        text = "count(2)"
        for _ in range(4):
            text = f"pair({text},{text})"
        self.raised(BadType, {"path": ()}, read_type, text)

    def test_bad_types_rightly_written(self):
        wrong = [
            ("lot(a,a)", ()), ("lot(a,b,a)", ()), ("pair(count(2),lot(red,red))", (2,)),
            ("pair(pair(count(2),lot(b,b)),lot(a,a))", (1, 2)), ("pair(count(5),count(5))", ()),
            ("pair(count(6),pair(count(2),count(3)))", ()),
            ("pair(pair(count(2),count(2)),pair(count(2),count(2)))", ()),
            ("pair(pair(count(2),count(2)),pair(count(2),lot(x,x)))", (2, 2)),
        ]
        for text, path in wrong:
            with self.subTest(text=text):
                self.raised(BadType, {"path": path}, read_type, text)

    def test_what_is_no_string(self):
        for value in NOTHINGS:
            if not isinstance(value, str):
                self.raised(BadText, {"place": 0}, read_type, value)
                self.raised(BadText, {"place": 0}, read_value, BOTH, value)
                self.raised(BadText, {"place": 0}, read_stream, BOTH, value)
        self.raised(BadText, {"place": 0}, read_type, ["count(2)"])
        self.raised(BadText, {"place": 0}, read_value, TWO, 0)
        self.raised(BadText, {"place": 0}, read_stream, TWO, ["0"])


class TestReadValues(Case):
    """[1.4] of values and streams."""

    def test_edited_values(self):
        for kind in [TWO, ("count", 6), COLOURS, BOTH, DEEP, NEAR]:
            texts = {value_text(kind, value): value for value in values_of(kind)}
            grammar = text_grammar(texts)
            for start in texts:
                for text in edits(start):
                    place = wrong_place(grammar, "ONE", text)
                    with self.subTest(kind=kind, text=text):
                        if place is None:
                            self.exact(read_value(kind, text), texts[text])
                        else:
                            self.raised(BadText, {"place": place}, read_value, kind, text)

    def test_edited_streams(self):
        streams = [
            (TWO, "0 - 1"), (COLOURS, "red blue -"), (BOTH, "- (red,0) (blue,1)"), (NEAR, "a ab abc b -"),
            (NEAR, "abc"), (YES_NO, ""), (YES_NO, "-"), (TWO, "- - -"), (DEEP, "((red,0),2) -"),
        ]
        for kind, start in streams:
            texts = {value_text(kind, value): value for value in values_of(kind)}
            grammar = text_grammar(texts)
            for text in edits(start):
                place = wrong_place(grammar, "ALL", text)
                with self.subTest(kind=kind, text=text):
                    if place is None:
                        want = [texts.get(token) for token in text.split(" ")] if text else []
                        self.exact(read_stream(kind, text), want)
                    else:
                        self.raised(BadText, {"place": place}, read_stream, kind, text)

    def test_places_in_values(self):
        places = [
            (TWO, "", 0), (TWO, "2", 0), (TWO, "00", 1), (TWO, " 0", 0), (TWO, "0 ", 1), (TWO, "-", 0),
            (COLOURS, "r", 1), (COLOURS, "rad", 1), (COLOURS, "redd", 3), (COLOURS, "green", 0),
            (BOTH, "(red,2)", 5), (BOTH, "(red, 0)", 5), (BOTH, "(red,0", 6), (BOTH, "(red,0))", 7),
            (BOTH, "(green,0)", 1), (BOTH, "red,0", 0), (NEAR, "abcd", 3), (NEAR, "ac", 1),
        ]
        for kind, text, place in places:
            with self.subTest(kind=kind, text=text):
                self.raised(BadText, {"place": place}, read_value, kind, text)

    def test_places_in_streams(self):
        places = [
            (YES_NO, "yes  no", 4), (YES_NO, " yes", 0), (YES_NO, "yes ", 4), (YES_NO, "yes no ", 7),
            (YES_NO, "ye", 2), (YES_NO, "ye no", 2), (YES_NO, "yesno", 3), (YES_NO, "--", 1),
            (YES_NO, "- x", 2), (YES_NO, " ", 0), (YES_NO, "yes\tno", 3), (YES_NO, "yes\n", 3),
            (YES_NO, "-no", 1), (NEAR, "abc abcd", 7), (TWO, "0,1", 1), (BOTH, "(red,-)", 5),
            (BOTH, "(red,0)(red,0)", 7),
        ]
        for kind, text, place in places:
            with self.subTest(kind=kind, text=text):
                self.raised(BadText, {"place": place}, read_stream, kind, text)

    def test_streams_come_back(self):
        streams = [
            (TWO, []), (TWO, [None]), (TWO, [0, None, 1, 1]), (BOTH, [("red", 0), None, ("blue", 1)]),
            (NEAR, ["a", "ab", None, "abc", "b"]), (DEEP, [None, (("blue", 1), 2), None]),
        ]
        for kind, ticks in streams:
            self.exact(read_stream(kind, stream_text(kind, ticks)), ticks)
            self.fresh(read_stream, kind, stream_text(kind, ticks))

    def test_a_long_stream(self):
        ticks = [("red", 1), None, ("blue", 0)] * 3000
        self.exact(read_stream(BOTH, stream_text(BOTH, ticks)), ticks)
