"""Standings: [3.1] and [3.2]."""

import itertools

from cases import Case
from samples import BOTH, COLOURS, FOUR, NESTED, PROGRAMS, THREE, TWO, YES_NO
from tickworks.nodes import Program
from tickworks.standings import is_below, operands_of, standing_of
from tickworks.types import values_of
from tickworks.written import written_out, written_types

U, A, T, C = ("unknown",), ("absent",), ("there",), ("clash",)


def value(told):
    """The standing of a value."""
    return ("value", told)


# How a grid writes standings: X is a clash that is made here, C one that came in.
SIGNS = {"U": U, "A": A, "T": T, "X": C, "C": C}

OF_VALUES = """
    U A T T C
    A A X X C
    T X T T C
    T X T V C
    C C C C C
"""
OF_HELD = """
    U A M M C
    U A X X C
    U X M M C
    U X M M C
    C C C C C
"""
OF_ARG = """
    U A T T C
    A A X X C
    T X T T C
    V X V V C
    C C C C C
"""
OF_WHEN = """
    U A U U A C
    A A X X X C
    U X U T A C
    U X U V A C
    C C C C C C
"""
OF_CHOOSE = """
    T T X X C
    X X X X C
    T T X X C
    V V X X C
    C C C C C
"""


def rows_in(grid):
    """The rows of a grid, lists of signs."""
    return [line.split() for line in grid.strip().split("\n")]


class TestStandings(Case):
    """standing_of"""

    def tells(self, want, right, kinds, standings, memory=None):
        """Checks a standing; lists may be tuples, and nothing is changed."""
        with self.subTest(right=right, standings=standings):
            self.exact(self.untouched(standing_of, right, list(kinds), list(standings), memory), want)
            self.exact(standing_of(right, tuple(kinds), tuple(standings), memory), want)

    def one(self, right, kind, own, want, memory=None):
        """Checks a right side of one operand, at each of its standings."""
        for standing, told in zip([U, A, T, value(own), C], want):
            self.tells(told, right, [kind], [standing], memory)

    def grid(self, grid, right, kinds, firsts, seconds, made, memory=None, turned=False):
        """Checks a right side of two operands, by a grid: rows are the first one's standings."""
        for first, row in zip(firsts, rows_in(grid)):
            self.assertEqual(len(row), len(seconds))
            for second, sign in zip(seconds, row):
                want = SIGNS.get(sign, made)
                standings = [second, first] if turned else [first, second]
                self.tells(want, right, kinds, standings, memory)

    def test_const_and_as(self):
        self.one(("const", BOTH, ("red", 1), "i"), THREE, 2, [U, A, value(("red", 1)), value(("red", 1)), C])
        self.one(("const", TWO, 0, "i"), YES_NO, "no", [U, A, value(0), value(0), C])
        self.one(("as", "p.m"), THREE, 2, [U, A, T, value(2), C])
        self.one(("as", "p.m"), BOTH, ("red", 0), [U, A, T, value(("red", 0)), C])

    def test_held(self):
        standings = [U, A, T, value(1), C]
        for agains in [(), (("c", "yes"),), (("c", "yes"), ("p.c", "no"))]:
            right = ("held", FOUR, 0, "m", "i", agains)
            self.grid(OF_HELD, right, [FOUR, THREE], standings, standings, value(3), 3)
            self.grid(OF_HELD, right, [FOUR, THREE], standings, standings, value(0), 0)
        right = ("held", BOTH, ("red", 0), "m", "i", ())
        self.tells(value(("blue", 1)), right, [BOTH, TWO], [U, T], ("blue", 1))

    def test_ops_and_tables_of_two(self):
        standings = [U, A, T, value(3), C]
        others = [U, A, T, value(2), C]
        self.grid(OF_VALUES, ("op", "plus", ("a", "b")), [FOUR, FOUR], standings, others, value(1))
        self.grid(OF_VALUES, ("op", "same", ("a", "b")), [FOUR, FOUR], standings, others, value("no"))
        self.grid(OF_VALUES, ("op", "pair", ("a", "b")), [FOUR, THREE], standings, others, value((3, 2)))
        table = ("table", ("count", 6), (0, 1, 2, 3, 4, 5, 0, 1, 2, 3, 4, 5), ("a", "b"))
        self.grid(OF_VALUES, table, [FOUR, THREE], standings, others, value(5))
        for word in ["and", "or"]:
            signs = [U, A, T, value("yes"), C]
            self.grid(OF_VALUES, ("op", word, ("a", "b")), [YES_NO, YES_NO], signs, signs, value("yes"))
            self.tells(T, ("op", word, ("a", "b")), [YES_NO, YES_NO], [value("no"), T])
            self.tells(T, ("op", word, ("a", "b")), [YES_NO, YES_NO], [T, value("yes")])

    def test_ops_and_tables_of_one(self):
        self.one(("op", "not", ("a",)), YES_NO, "yes", [U, A, T, value("no"), C])
        self.one(("op", "first", ("a",)), BOTH, ("blue", 0), [U, A, T, value("blue"), C])
        self.one(("op", "second", ("a",)), BOTH, ("blue", 0), [U, A, T, value(0), C])
        self.one(("table", COLOURS, ("blue", "red"), ("a",)), TWO, 1, [U, A, T, value("red"), C])

    def test_tables_of_more(self):
        right = ("table", TWO, (0, 1) * 6, ("a", "b", "c"))
        kinds = [TWO, THREE, TWO]
        for wanted, standings in [
            (U, [U, U, U]), (A, [U, A, U]), (A, [A, A, A]), (T, [U, U, T]), (T, [value(0), U, value(1)]),
            (T, [value(0), value(1), T]), (T, [value(0), value(1), U]), (C, [value(0), U, A]), (C, [A, U, T]),
            (C, [U, C, A]), (value(1), [value(0), value(2), value(1)]), (value(0), [value(1), value(2), value(0)]),
        ]:
            self.tells(wanted, right, kinds, standings)

    def test_arg(self):
        standings = [U, A, T, value(3), C]
        others = [U, A, T, value(2), C]
        self.grid(OF_ARG, ("arg", ("a", "b"), 0), [FOUR, FOUR], standings, others, value(3))
        self.grid(OF_ARG, ("arg", ("a", "b"), 1), [FOUR, FOUR], standings, others, value(3), None, True)
        self.one(("arg", ("a",), 0), FOUR, 2, [U, A, T, value(2), C])

    def test_arg_of_three(self):
        kinds = [FOUR, TWO, YES_NO]
        for place, standings, want in [
            (0, [U, U, value("no")], T), (1, [U, value(1), U], value(1)), (1, [U, value(1), A], C),
            (1, [U, U, A], A), (0, [value(3), T, U], value(3)), (0, [value(3), T, A], C), (0, [A, A, A], A),
            (1, [value(3), U, U], T), (1, [T, U, U], T), (0, [U, U, U], U), (1, [value(3), value(0), T], value(0)),
            (1, [value(3), value(0), C], C), (0, [A, U, C], C), (0, [A, U, T], C),
        ]:
            self.tells(want, ("arg", ("a", "b", "c"), place), kinds, standings)

    def test_when(self):
        conds = [U, A, T, value("yes"), value("no"), C]
        standings = [U, A, T, value(3), C]
        self.grid(OF_WHEN, ("when", "s", "b", "yes"), [FOUR, YES_NO], standings, conds, value(3))
        turned = [U, A, T, value("no"), value("yes"), C]
        self.grid(OF_WHEN, ("when", "s", "b", "no"), [FOUR, YES_NO], standings, turned, value(3))
        three = ("lot", ("a", "b", "c"))
        for word, other in itertools.permutations(["a", "b", "c"], 2):
            self.tells(value(1), ("when", "s", "b", word), [FOUR, three], [value(1), value(word)])
            self.tells(A, ("when", "s", "b", word), [FOUR, three], [value(1), value(other)])
            self.tells(A, ("when", "s", "b", word), [FOUR, three], [U, value(other)])

    def test_choose_by_a_value(self):
        standings = [U, A, T, value(3), C]
        others = [U, A, T, value(2), C]
        right = ("choose", "b", ("x", "y"))
        for first, row in zip(standings, rows_in(OF_CHOOSE)):
            for second, sign in zip(others, row):
                want = SIGNS.get(sign, value(3))
                self.tells(want, right, [YES_NO, FOUR, FOUR], [value("no"), first, second])
                self.tells(want, right, [YES_NO, FOUR, FOUR], [value("yes"), second, first])

    def test_choose_without_a_value(self):
        right = ("choose", "b", ("x", "y"))
        kinds = [YES_NO, FOUR, FOUR]
        for first, second in itertools.product([U, A, T, value(3)], repeat=2):
            self.tells(U, right, kinds, [U, first, second])
            self.tells(T, right, kinds, [T, first, second])
            here = T in (first, second) or value(3) in (first, second)
            self.tells(C if here else A, right, kinds, [A, first, second])
        for cond in [U, A, T, value("no"), value("yes"), C]:
            self.tells(C, right, kinds, [cond, C, U])
            self.tells(C, right, kinds, [cond, A, C])
            self.tells(C, right, kinds, [C, cond, U])

    def test_choose_of_more(self):
        lot = ("lot", ("a", "b", "c", "d"))
        kinds = [lot, TWO, TWO, TWO, TWO]
        right = ("choose", "l", ("p", "q", "r", "s"))
        for place, word in enumerate(["a", "b", "c", "d"]):
            branches = [A, A, A, A]
            self.tells(C, right, kinds, [value(word), *branches])
            branches[place] = value(1)
            self.tells(value(1), right, kinds, [value(word), *branches])
            self.tells(U, right, kinds, [U, *branches])
            self.tells(C, right, kinds, [A, *branches])
            for other in range(4):
                if other != place:
                    changed = list(branches)
                    changed[other] = U
                    self.tells(value(1), right, kinds, [value(word), *changed])
                    changed[other] = T
                    self.tells(C, right, kinds, [value(word), *changed])
                    changed[other] = value(0)
                    self.tells(C, right, kinds, [value(word), *changed])
            branches[place] = U
            self.tells(T, right, kinds, [value(word), *branches])

    def test_a_stream_twice(self):
        self.tells(C, ("choose", "b", ("x", "x")), [YES_NO, TWO, TWO], [value("no"), value(1), value(1)])
        self.tells(T, ("choose", "b", ("x", "x")), [YES_NO, TWO, TWO], [value("no"), U, U])
        self.tells(value(2), ("op", "plus", ("x", "x")), [FOUR, FOUR], [value(3), value(3)])
        self.tells(value("yes"), ("when", "b", "b", "yes"), [YES_NO, YES_NO], [value("yes"), value("yes")])
        self.tells(A, ("when", "b", "b", "no"), [YES_NO, YES_NO], [value("yes"), value("yes")])

    def test_words_that_standings_have_too(self):
        odd = ("lot", ("clash", "absent", "unknown", "there"))
        for word in odd[1]:
            self.tells(value(word), ("as", "x"), [odd], [value(word)])
            self.tells(value(word), ("when", "x", "x", word), [odd, odd], [value(word), value(word)])
            self.tells(value("yes"), ("op", "same", ("x", "y")), [odd, odd], [value(word), value(word)])

    def test_values_of_ops(self):
        pair = ("pair", ("lot", ("z", "a")), THREE)
        places = {word: {v: k for k, v in enumerate(values_of(kind))} for word, kind in
                  [("four", FOUR), ("pair", pair), ("lot", ("lot", ("z", "b", "a")))]}
        truths = {True: "yes", False: "no"}
        for one, other in itertools.product(["no", "yes"], repeat=2):
            kinds, standings = [YES_NO, YES_NO], [value(one), value(other)]
            both = one == "yes" and other == "yes"
            either = one == "yes" or other == "yes"
            self.tells(value(truths[both]), ("op", "and", ("a", "b")), kinds, standings)
            self.tells(value(truths[either]), ("op", "or", ("a", "b")), kinds, standings)
            self.tells(value(truths[one == "no"]), ("op", "not", ("a",)), [YES_NO], [value(one)])
        for kind, order in [(FOUR, places["four"]), (pair, places["pair"]),
                            (("lot", ("z", "b", "a")), places["lot"])]:
            for one, other in itertools.product(values_of(kind), repeat=2):
                standings = [value(one), value(other)]
                same, less = truths[one == other], truths[order[one] < order[other]]
                self.tells(value(same), ("op", "same", ("a", "b")), [kind, kind], standings)
                self.tells(value(less), ("op", "less", ("a", "b")), [kind, kind], standings)
        for number in range(2, 7):
            for one, other in itertools.product(range(number), repeat=2):
                want = one + other if one + other < number else one + other - number
                kinds = [("count", number)] * 2
                self.tells(value(want), ("op", "plus", ("a", "b")), kinds, [value(one), value(other)])
        for one, other in itertools.product(values_of(pair), values_of(YES_NO)):
            both = ("pair", pair, YES_NO)
            self.tells(value((one, other)), ("op", "pair", ("a", "b")), [pair, YES_NO], [value(one), value(other)])
            self.tells(value(one), ("op", "first", ("a",)), [both], [value((one, other))])
            self.tells(value(other), ("op", "second", ("a",)), [both], [value((one, other))])

    def test_values_of_tables(self):
        kinds = [TWO, ("lot", ("z", "a", "m")), BOTH]
        rows = list(itertools.product(*[values_of(kind) for kind in kinds]))
        results = tuple([number % 5 for number in range(len(rows))])
        right = ("table", ("count", 5), results, ("a", "b", "c"))
        for number, row in enumerate(rows):
            self.tells(value(number % 5), right, kinds, [value(told) for told in row])


class TestOrder(Case):
    """is_below, and that no standing falls."""

    ALL = [U, A, T, value(0), value(1), value("yes"), value(("red", 0)), C]

    def test_is_below(self):
        for one, other in itertools.product(self.ALL, repeat=2):
            want = one == other or one == U or other == C or (one == T and other[0] == "value")
            self.exact(is_below(one, other), want)
        for one, other, want in [
            (U, U, True), (U, A, True), (U, T, True), (U, value(0), True), (U, C, True), (A, U, False),
            (A, A, True), (A, T, False), (A, value(0), False), (A, C, True), (T, U, False), (T, A, False),
            (T, T, True), (T, value(0), True), (T, C, True), (value(0), U, False), (value(0), A, False),
            (value(0), T, False), (value(0), value(0), True), (value(0), value(1), False), (value(0), C, True),
            (C, U, False), (C, A, False), (C, T, False), (C, value(0), False), (C, C, True),
        ]:
            self.exact(is_below(one, other), want)

    def test_no_standing_falls(self):
        for nodes in PROGRAMS.values():
            made = Program(nodes)
            types = written_types(made)
            for _, right in written_out(made):
                if right[0] != "input":
                    kinds = [types[stream] for stream in operands_of(right)]
                    self.rises(right, kinds, values_of(right[1])[-1] if right[0] == "held" else None)

    def rises(self, right, kinds, memory):
        """Checks one right side, with two values of each operand."""
        choices = [[U, A, T, C] + [value(told) for told in values_of(kind)[:2]] for kind in kinds]
        for lower in itertools.product(*choices):
            below = standing_of(right, kinds, list(lower), memory)
            for place, choice in enumerate(choices):
                for other in choice:
                    if is_below(lower[place], other):
                        upper = [*lower[:place], other, *lower[place + 1:]]
                        above = standing_of(right, kinds, upper, memory)
                        self.assertTrue(is_below(below, above), (right, lower, upper))


class TestOperands(Case):
    """operands_of"""

    def test_each_right_side(self):
        rights = [
            (("input", TWO), ()), (("const", TWO, 1, "i"), ("i",)), (("op", "not", ("a",)), ("a",)),
            (("op", "plus", ("a", "b")), ("a", "b")), (("op", "plus", ("a", "a")), ("a", "a")),
            (("table", TWO, (0, 1), ("c", "a", "b")), ("c", "a", "b")),
            (("table", TWO, (0, 1), ("c", "c")), ("c", "c")),
            (("held", TWO, 1, "m", "like", ()), ("m", "like")), (("held", TWO, 1, "m", "m", ()), ("m", "m")),
            (("held", TWO, 1, "p.m", "p.i", (("c", "yes"), ("p.d", "no"))), ("p.m", "p.i")),
            (("when", "s", "c", "yes"), ("s", "c")), (("choose", "c", ("x", "y", "c")), ("c", "x", "y", "c")),
            (("arg", ("a", "b", "a"), 1), ("a", "b", "a")), (("arg", ("a",), 0), ("a",)), (("as", "p.q"), ("p.q",)),
        ]
        for right, want in rights:
            self.exact(operands_of(right), want)

    def test_written_out_programs(self):
        operands = [operands_of(right) for _, right in written_out(Program(NESTED))]
        self.exact(operands, [
            (), (), ("r",), ("k", "c", "r"), ("k", "c", "r"), ("o.by", "o.clear", "o.clear"),
            ("o.by", "o.clear", "o.clear"), ("o.out.m", "o.out.up"), ("o.out.n", "o.out.up"), ("o.out.n",),
            ("o.out", "o.by"), ("o.out",), ("o.old",), ("u", "k"), ("k", "c"), ("k", "c"), ("e.m", "e.up"),
            ("e.n", "e.up"), ("e.n",)])
