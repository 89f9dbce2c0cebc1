"""Texts of programs: [2.5]."""

import re

from cases import Case, NOTHINGS
from samples import ALL, KEYWORDS, OPS, PROGRAMS, SUM, TWICE, TWO, YES_NO
from tickworks.errors import (
    BadProgram, BadText, BadType, MixedTypes, NameMissing, TickError, TooMany, TwiceTold, UnknownName,
)
from tickworks.nodes import Program
from tickworks.nodetexts import program_text, read_program
from tickworks.texts import read_type, read_value

ALL_LINES = [
    "node low", "in i count(2)", "in j lot(no,yes)", "out a b",
    "a = const pair(lot(red,blue),count(2)) (red,1) i", "b = table count(2) 0 1 1 0 : i j",
    "h = held count(2) 1 b i", "w = when i j yes", "v = when i j no", "c = choose j v w", "p = op plus i h",
    "node main", "in s count(2)", "in t lot(no,yes)", "out x q", "x y = call low s t",
    "z q = call low s t : t yes",
]

KEYWORDS_LINES = [
    "node in", "in node lot(no,yes)", "in out count(2)", "out in op", "in = when out node yes",
    "call = when out node no", "op = choose node call in", "held = const lot(const,held) held op",
    "node node", "in when lot(no,yes)", "in choose count(2)", "out table const",
    "table const = call in when choose : when no",
]

OPS_LINES = [
    "node ops", "in x count(2)", "in y count(3)", "in b lot(no,yes)", "out f l", "p = op pair x y",
    "f = op first p", "g = op second p", "u = op same f x", "l = op less g y", "a = op and u b",
    "o = op or a l", "n = op not o",
]

# A small program, with each kind of line alone.
SMALL = ["node n", "in i count(2)", "out a", "a = op plus i i"]


def text_of(lines):
    """The text of lines, each with its line feed."""
    return "".join([line + "\n" for line in lines])


WORD = "[a-z]{1,8}"
WORDS = f"{WORD}(?: {WORD})*"
LINES = {
    "node": [f"node {WORD}"],
    "in": [f"in {WORD} (?P<kind>[^ ]+)"],
    "out": [f"out {WORDS}"],
    "equation": [f"{WORDS} = {right}" for right in [
        f"const (?P<kind>[^ ]+) (?P<values>[^ ]+) {WORD}", f"op {WORD} {WORDS}",
        f"table (?P<kind>[^ ]+) (?P<values>[^ ]+(?: [^ ]+)*) : {WORDS}",
        f"held (?P<kind>[^ ]+) (?P<values>[^ ]+) {WORD} {WORD}", f"when {WORD} {WORD} {WORD}",
        f"choose {WORD} {WORDS}", f"call {WORD} {WORDS}(?: : {WORD} {WORD})?",
    ]],
}
BEHIND = {"": ["node"], "node": ["in"], "in": ["in", "out"], "out": ["equation"], "equation": ["equation", "node"]}


def line_kind(line):
    """What a line is, by another way than the package's, or None."""
    for name, patterns in LINES.items():
        for pattern in patterns:
            found = re.fullmatch(pattern, line)
            if found and values_fit(found.groupdict()):
                return name
    return None


def values_fit(groups):
    """Whether a line's type is one, and its values are of it."""
    try:
        if "kind" in groups:
            kind = read_type(groups["kind"])
            for text in groups.get("values", "").split(" ") if "values" in groups else []:
                read_value(kind, text)
    except (BadText, BadType):
        return False
    return True


def wrong_line(text):
    """The place of BadText, or None."""
    last = ""
    lines = re.findall(r"[^\n]*\n|[^\n]+", text)
    for number, line in enumerate(lines):
        name = line_kind(line[:-1]) if line.endswith("\n") else None
        if name not in BEHIND[last]:
            return number
        last = name
    return None if last == "equation" else len(lines)


class TestTexts(Case):
    """program_text and read_program"""

    def test_texts(self):
        for nodes, lines in [(ALL, ALL_LINES), (KEYWORDS, KEYWORDS_LINES), ([OPS], OPS_LINES)]:
            self.exact(program_text(Program(nodes)), text_of(lines))
            self.exact(read_program(text_of(lines)).nodes(), nodes)

    def test_the_example(self):
        lines = ["node sum", "in step count(4)", "out m", "n = held count(4) 0 m step", "m = op plus n step",
                 "node two", "in s count(4)", "out p", "p = call sum s"]
        self.exact(program_text(Program([SUM, TWICE])), text_of(lines))

    def test_all_samples_come_back(self):
        for nodes in PROGRAMS.values():
            made = Program(nodes)
            back = read_program(program_text(made))
            self.assertIsInstance(back, Program)
            self.assertEqual(back, made)
            self.exact(back.nodes(), nodes)

    def test_equations_that_begin_like_other_lines(self):
        lines = ["node out", "in i lot(no,yes)", "in in count(2)", "out node out", "node = op not i",
                 "out = op not node", "equation = when in i yes", "node in", "in out lot(no,yes)",
                 "in node count(2)", "out in", "in a = call out out node : out no"]
        made = read_program(text_of(lines))
        self.exact(made.nodes(), [
            ("out", (("i", YES_NO), ("in", TWO)), ("node", "out"), (
                (("node",), ("op", "not", ("i",))), (("out",), ("op", "not", ("node",))),
                (("equation",), ("when", "in", "i", "yes")))),
            ("in", (("out", YES_NO), ("node", TWO)), ("in",), (
                (("in", "a"), ("call", "out", ("out", "node"), ("out", "no"))),))])
        self.exact(program_text(made), text_of(lines))
        for number in range(len(lines)):
            self.check_read(text_of(lines[:number] + lines[number + 1:]))

    def test_what_is_no_string(self):
        for value in NOTHINGS:
            if not isinstance(value, str):
                self.raised(BadText, {"place": 0}, read_program, value)
        self.raised(BadText, {"place": 0}, read_program, [text_of(SMALL)])
        self.raised(BadText, {"place": 0}, read_program, Program([SUM]))

    def bad_line(self, lines, number, line):
        """Checks that a line in the place of another one is the first wrong one."""
        changed = [*lines[:number], line, *lines[number + 1:]]
        with self.subTest(line=line):
            self.raised(BadText, {"place": number}, read_program, text_of(changed))

    def test_wrong_lines_of_nodes(self):
        for line in ["node", "node ", "node  n", " node n", "node n ", "node n m", "Node n", "node N",
                     "node abcdefghi", "node n1", "node \tn", "", " ", "nod n", "n", "node =", "node n:"]:
            self.bad_line(SMALL, 0, line)

    def test_wrong_lines_of_inputs(self):
        for line in ["in", "in i", "in count(2)", "in i count(2) ", "in i count(7)", "in i count(2) count(2)",
                     "in i lot(a,a)", "in i  count(2)", "in i count(2", "in I count(2)", "in i pair(count(5),count(5))",
                     "in i pair(count(2), count(2))", "in i j count(2)", "in i two", "int i count(2)", "in i =",
                     "in abcdefghi count(2)", "in i lot(a)", "", "i count(2)", "in i 2",
                     "in i pair(pair(count(2),count(2)),pair(count(2),count(2)))"]:
            self.bad_line(SMALL, 1, line)

    def test_wrong_lines_of_outputs(self):
        for line in ["out", "out ", "out  a", "out a ", "out a  b", "out A", "out a,b", "out a :", "output a", "a",
                     "out abcdefghi", "out a 1", "out : a", "", "out a =", "out a-b"]:
            self.bad_line(SMALL, 2, line)

    def test_wrong_lines_of_equations(self):
        lines = [
            "", "a", "a =", "a = ", "= op plus i i", " = op plus i i", "a op plus i i", "a = op", "a = op plus",
            "a = op plus ", "a = op plus i  i", "a = op plus i i ", "a  = op plus i i", "a =  op plus i i",
            " a = op plus i i", "a b= op plus i i", "a == op plus i i", "a = = op plus i i", "A = op plus i i",
            "a = Op plus i i", "a = op Plus i i", "a = op plus i 1", "a = op plus i : i", "a = op plus i =",
            "a = ops plus i i", "a = plus i i", "a = input count(2)", "a = as i", "a = arg i 0",
            "abcdefghi = op plus i i", "a = op abcdefghi i i", "a = op plus i,i", "a, b = op plus i i",
            "a 1 = op plus i i", "a : b = op plus i i", "a = op : i",
            "equation a", "equal a b", "op plus i i", "node", "#", "-", "a op",
        ]
        for line in lines:
            self.bad_line(SMALL, 3, line)

    def test_wrong_lines_of_each_right_side(self):
        lines = [
            "const", "const count(2)", "const count(2) 0", "const count(2) 0 i i", "const count(2) 2 i",
            "const count(2) i", "const 0 i", "const count(1) 0 i", "const count(2) 00 i", "const lot(a,b) c i",
            "const lot(a,b) a I", "const pair(count(2),count(2)) (0,2) i", "const count(2) - i", "const i count(2) 0",
            "const lot(a,a) a i", "const count(2) 0 : i", "const pair(count(5),count(5)) (0,0) i",
            "table", "table count(2)", "table count(2) 0 1", "table count(2) 0 1 :", "table count(2) : i",
            "table count(2) 0 1 i", "table count(2) 0 2 : i", "table count(2) 0 1 : : i", "table 0 1 : i",
            "table count(2) 0 1 : i : i", "table count(2) 0 1: i", "table count(2) 0 1 : i 0",
            "table count(2) 0  1 : i", "table count(2) 0 a : i", "table lot(a,b) a c : i", "table count(2) 0 - : i",
            "held", "held count(2) 0", "held count(2) 0 i", "held count(2) 0 i i i", "held count(2) 2 i i",
            "held count(9) 0 i i", "held 0 i i", "held count(2) i i", "held count(2) 0 i 1", "held count(2) 0 i : i",
            "when", "when i", "when i i", "when i i yes no", "when i i 1", "when i I yes", "when i i abcdefghi",
            "when i : i", "choose", "choose i", "choose i ", "choose i : i", "choose i i 0", "choose I i",
            "choose i i,i", "call", "call n", "call n i :", "call n i : i", "call n i : i yes no", "call n : i yes",
            "call n i : i yes :", "call n i : : i yes", "call n i i yes :", "call N i", "call n i : i Yes",
            "call n i : I yes", "call n 1", "call n i: i yes", "call n i :i yes", "call n i : i yes : i yes",
        ]
        for right in lines:
            self.bad_line(SMALL, 3, "a = " + right)
            self.bad_line(SMALL, 3, "a b = " + right)

    def test_lines_in_wrong_places(self):
        for number, line in enumerate(SMALL):
            for other in range(4):
                if other != number:
                    text = text_of([*SMALL[:number], SMALL[other], *SMALL[number:]])
                    with self.subTest(text=text):
                        self.check_read(text)
        wrong = [
            (["in i count(2)", "node n", "out a", "a = op plus i i"], 0), (["out a"], 0), (["a = op plus i i"], 0),
            (["node n", "out a", "in i count(2)", "a = op plus i i"], 1), (["node n", "node n", "in i count(2)"], 1),
            (["node n", "in i count(2)", "a = op plus i i", "out a"], 2), (["node n", "a = op plus i i"], 1),
            (["node n", "in i count(2)", "out a", "in j count(2)", "a = op plus i i"], 3),
            (["node n", "in i count(2)", "out a", "out b", "a = op plus i i"], 3),
            (["node n", "in i count(2)", "out a", "node m"], 3), (["node n", "in i count(2)", "node m"], 2),
            ([*SMALL, "in j count(2)"], 4), ([*SMALL, "out a"], 4), ([*SMALL, *SMALL[1:]], 4),
            ([*SMALL, *SMALL[:3]], 7), ([*SMALL, *SMALL[:2]], 6), ([*SMALL, SMALL[0]], 5), ([*SMALL, ""], 4),
            ([*SMALL, "", *SMALL], 4), (["", *SMALL], 0),
        ]
        for lines, place in wrong:
            with self.subTest(lines=lines):
                self.raised(BadText, {"place": place}, read_program, text_of(lines))

    def test_lines_left_out(self):
        for lines in [SMALL, ALL_LINES, KEYWORDS_LINES]:
            for number in range(len(lines)):
                self.check_read(text_of(lines[:number] + lines[number + 1:]))
        self.raised(BadText, {"place": 0}, read_program, text_of(SMALL[1:]))
        self.raised(BadText, {"place": 1}, read_program, text_of([SMALL[0], *SMALL[2:]]))
        self.raised(BadText, {"place": 2}, read_program, text_of([*SMALL[:2], SMALL[3]]))
        self.raised(BadText, {"place": 3}, read_program, text_of(SMALL[:3]))

    def test_cut_texts(self):
        for lines in [SMALL, ALL_LINES]:
            text = text_of(lines)
            for end in range(len(text)):
                self.check_read(text[:end])
                if not text[:end].endswith("\n"):
                    place = text[:end].count("\n")
                    self.raised(BadText, {"place": place}, read_program, text[:end])
        self.raised(BadText, {"place": 0}, read_program, "")
        self.raised(BadText, {"place": 0}, read_program, "\n")
        self.raised(BadText, {"place": 0}, read_program, "node n")
        self.raised(BadText, {"place": 1}, read_program, "node n\n")
        self.raised(BadText, {"place": 3}, read_program, text_of(SMALL)[:-1])
        self.raised(BadText, {"place": 4}, read_program, text_of(SMALL) + " ")
        self.raised(BadText, {"place": 4}, read_program, text_of(SMALL) + "\n")

    def test_edited_texts(self):
        texts = [text_of(SMALL), text_of([
            "node n", "in i lot(a,b)", "out c", "c = table lot(a,b) a b : i", "d = held lot(a,b) b c i"]),
            text_of(["node n", "in i count(2)", "out a", "a = when i y no", "y = const lot(no,yes) no i",
                     "node m", "in i count(2)", "in b lot(x,z)", "out a", "a = call n i : b x",
                     "c = choose b i i"])]
        for text in texts:
            for place in range(len(text)):
                head, tail = text[:place], text[place + 1:]
                changed = [head + sign + tail for sign in " \n=:a2("]
                changed += [head + tail, head + text[place] * 2 + tail]
                changed += [head + sign + text[place:] for sign in " \n=:a2("]
                for edited in changed:
                    self.check_read(edited)

    def check_read(self, text):
        """Checks a text against the patterns of its lines."""
        place = wrong_line(text)
        if place is not None:
            self.raised(BadText, {"place": place}, read_program, text)
            return
        try:
            got = read_program(text)
        except BadText as error:
            self.fail(f"{text!r} is right, but BadText({error.place}) was raised")
        except (TickError, NameMissing):
            return
        self.exact(program_text(got), text)

    def test_what_is_left_to_the_program(self):
        five = ["in " + word + " count(2)" for word in "ijklm"]
        plus = [word + " = op plus i i" for word in "abcdefghj"]
        wrong = [
            ([*SMALL[:3], "a = op minus i i"], (0, 3, 0, 1, 1)), ([*SMALL[:3], "a = op plus i"], (0, 3, 0, 1, 2)),
            ([*SMALL[:3], "a = op not i i"], (0, 3, 0, 1, 2)), ([*SMALL[:3], "a = op plus i i i i i"], (0, 3, 0, 1, 2)),
            ([*SMALL[:2], "out a b c d e", SMALL[3]], (0, 2)), ([*SMALL[:3], "a b c d e = op plus i i"], (0, 3, 0, 0)),
            ([*SMALL[:3], "a = choose i i i i i i"], (0, 3, 0, 1, 2)),
            ([*SMALL[:3], "a = call n i i i i i"], (0, 3, 0, 1, 2)),
            ([*SMALL[:3], "a = table count(2) 0 1 : i i i i i"], (0, 3, 0, 1, 3)),
            ([*SMALL[:3], "a = table count(2)" + " 0" * 61 + " : i"], (0, 3, 0, 1, 2)),
            ([SMALL[0], *five, *SMALL[2:]], (0, 1)), ([*SMALL[:3], *plus], (0, 3)),
            ([line for word in "abcde" for line in ["node " + word, *SMALL[1:]]], ()),
            ([*SMALL, "node m", *SMALL[1:3], "a = op nor i i"], (1, 3, 0, 1, 1)),
        ]
        for lines, path in wrong:
            with self.subTest(lines=lines):
                self.raised(BadProgram, {"path": path}, read_program, text_of(lines))

    def test_the_other_errors_of_programs(self):
        self.raised(TwiceTold, {"name": "n"}, read_program, text_of(SMALL * 2))
        self.raised(TwiceTold, {"name": "i"}, read_program, text_of([*SMALL[:2], *SMALL[1:]]))
        self.raised(TwiceTold, {"name": "a"}, read_program, text_of([*SMALL, SMALL[3]]))
        self.raised(TwiceTold, {"name": "a"}, read_program, text_of([*SMALL[:2], "out a a", SMALL[3]]))
        self.raised(UnknownName, {"name": "b"}, read_program, text_of([*SMALL[:2], "out b", SMALL[3]]))
        self.raised(UnknownName, {"name": "n"}, read_program, text_of([*SMALL[:3], "a = call n i"]))
        self.raised(UnknownName, {"name": "x"}, read_program, text_of([*SMALL[:3], "a = op plus i x"]))
        self.raised(MixedTypes, {"node": "n", "stream": "a"}, read_program, text_of([*SMALL[:3], "a = op not i"]))
        self.raised(MixedTypes, {"node": "n", "stream": "a"}, read_program, text_of([*SMALL[:3], "a b = op plus i i"]))
        many = [word + " = held count(2) 0 i i" for word in "bcdefgh"]
        self.raised(TooMany, {}, read_program, text_of([*SMALL, *many]))

    def test_bad_text_ahead_of_the_program(self):
        self.raised(BadText, {"place": 7}, read_program, text_of([*SMALL[:3], "a = op nor x", *SMALL[:3], "a = opp"]))

    def test_nodes_are_tuples(self):
        for lines in [SMALL, ALL_LINES, OPS_LINES]:
            made = read_program(text_of(lines))
            self.assertEqual(made, Program(made.nodes()))
        self.exact(read_program(text_of(SMALL)).nodes(), [
            ("n", (("i", TWO),), ("a",), ((("a",), ("op", "plus", ("i", "i"))),))])

    def test_long_texts(self):
        table = "a = table count(2)" + " 0 1" * 20000 + " : i"
        self.raised(BadProgram, {"path": (0, 3, 0, 1, 2)}, read_program, text_of([*SMALL[:3], table]))
        self.raised(BadProgram, {"path": (0, 3)}, read_program, text_of([*SMALL[:3], *[SMALL[3]] * 5000]))
        self.raised(BadProgram, {"path": (0, 1)}, read_program, text_of([SMALL[0], *[SMALL[1]] * 5000, *SMALL[2:]]))
        self.raised(BadProgram, {"path": (0, 2)}, read_program, text_of([*SMALL[:2], "out" + " a" * 20000, SMALL[3]]))
