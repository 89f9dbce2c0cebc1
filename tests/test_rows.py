"""The form of rows, and the cells in them: [6.1]."""

from cases import Case, NOTHINGS
from drawn import swift_programs
from samples import BOTH, FOUR, MAIN, LOW, THREE, TWO, YES_NO
from tickworks.compiler import compiled
from tickworks.nodes import Program
from tickworks.rows import cells_in, form_fault

# main's inputs are s of count(2) and t of truths, its outputs x and q, its helds x.h and z.h.
MADE = Program([LOW, MAIN])
COLOURS = ("lot", ("red", "blue"))
PLUS = ("put", 2, ("op", "plus", (FOUR, FOUR)), (1, 0))
TABLE = ("put", 2, ("table", TWO, (0, 1, 1, 0), (TWO, YES_NO)), (1, 0))

# Words that are names of none of these, and what is no word.
NO_NAMES = [*NOTHINGS, "z", "h", "x.i", "main", ["s"], ("s",), "S", b"s"]
NO_CELLS = [*[value for value in NOTHINGS if value not in (0, 1) or isinstance(value, bool)], 100, -100, 101, "0",
            (0,), [0]]
NO_TYPES = [*NOTHINGS, ("count", 7), ("count", True), ["count", 2], ("lot", ("a", "a")), ("pair", TWO), ("count", 2, 2),
            ("pair", ("pair", FOUR, FOUR), TWO), "count(2)"]
NO_ROWS = [*NOTHINGS, ("get",), ("go", 0), (0, 0, "s"), (("get", 0, "s"),), ["get", 0, "s"], ("gets", 0, "s"),
           (None, 0), ([], 0, "s"), ({}, 1), ("if", 0), ("tell", "x"), ("renew",), ("close",)]

RIGHT = [
    ("get", 0, "s"), ("get", 99, "t"), ("const", 5, BOTH, ("red", 1)), ("const", 0, YES_NO, "no"), ("load", 7, "x.h"),
    ("load", 7, "z.h"), ("copy", 3, 4), ("copy", 3, 3), PLUS, TABLE, ("if", 0, ()), ("if", 99, (("yes", ()),)),
    ("if", 1, (("any", ()), ("word", (("get", 0, "s"),)), ("abcdefgh", (("if", 0, ()), PLUS)))), ("tell", "x", 0),
    ("tell", "q", 99), ("store", "x.h", 1), ("renew", ("x.h",)), ("renew", ("z.h", "x.h")),
    ("renew", ("x.h", "x.h", "x.h")),
    ("put", 0, ("op", "not", (YES_NO,)), (0,)), ("put", 0, ("op", "and", (YES_NO, YES_NO)), (1, 1)),
    ("put", 0, ("op", "or", (YES_NO, YES_NO)), (1, 2)), ("put", 0, ("op", "same", (BOTH, BOTH)), (1, 2)),
    ("put", 0, ("op", "less", (COLOURS, COLOURS)), (1, 2)), ("put", 0, ("op", "pair", (TWO, BOTH)), (1, 2)),
    ("put", 0, ("op", "first", (BOTH,)), (1,)), ("put", 0, ("op", "second", (BOTH,)), (1,)),
    ("put", 0, ("table", YES_NO, ("no", "yes"), (TWO,)), (1,)),
    ("put", 0, ("table", BOTH, (("red", 0),) * 4, (BOTH,)), (1,)),
    ("put", 0, ("table", TWO, (1,) * 64, (TWO,) * 6), (0, 1, 2, 3, 4, 5)),
    ("put", 0, ("table", TWO, (1,) * 96, (THREE, TWO, TWO, TWO, TWO, TWO)), (0,) * 6),
]


def exchanged(row, place, part):
    """A row with another part at a place."""
    return row[:place] + (part,) + row[place + 1:]


def wrong_rows():
    """Rows with one wrong part, or with a part too many or too few."""
    found = list(NO_ROWS)
    for row in RIGHT:
        found += [row[:-1], (*row, 0), (*row, ()), list(row), exchanged(row, 0, "go"), exchanged(row, 0, (row[0],))]
    for row in RIGHT[:10] + RIGHT[10:12]:
        found += [exchanged(row, 1, cell) for cell in NO_CELLS]
    found += [exchanged(row, 2, name) for row in RIGHT[:2] for name in [*NO_NAMES, "x", "q", "x.h"]]
    found += [exchanged(row, 2, name) for row in RIGHT[4:6] for name in [*NO_NAMES, "x", "s", "q"]]
    found += [("const", 0, kind, "no") for kind in NO_TYPES]
    found += [("const", 0, YES_NO, value) for value in [*NOTHINGS, "maybe", ("no",), ["no"]]]
    found += [("const", 0, TWO, value) for value in [2, -1, True, False, None, "0", (0,)]]
    found += [("const", 0, BOTH, value) for value in [("red", 2), ("red", True), ["red", 1], ("red",), ("red", 1, 1),
                                                      "red"]]
    found += [("copy", 0, cell) for cell in NO_CELLS]
    found += [("tell", "x", cell) for cell in NO_CELLS] + [("store", "x.h", cell) for cell in NO_CELLS]
    found += [("tell", name, 0) for name in [*NO_NAMES, "s", "x.h", "y"]]
    found += [("store", name, 0) for name in [*NO_NAMES, "s", "x", "q"]]
    found += [("renew", names) for names in [*NOTHINGS, "x.h", ["x.h"], ("x.h", "s"), (["x.h"],), ("x.h", None), ({},)]]
    found += [("if", 0, value) for value in NOTHINGS if not isinstance(value, tuple)] + [("if", 0, [("yes", ())])]
    return found + wrong_puts()


def wrong_puts():
    """Puts that put what cannot be put, or from cells that are none or too many."""
    whats = [*NOTHINGS, ("op", "plus"), ("op", "plus", (FOUR, FOUR), ()), ["op", "plus", (FOUR, FOUR)],
             ("ops", "plus", (FOUR, FOUR)), ("table", TWO, (0, 1, 1, 0)), ("table", TWO, (0, 1, 1, 0), (TWO, TWO), 0),
             ("op", "plus", (1, 0)), ("op", "plus", [FOUR, FOUR]), ("op", "plus", (FOUR, list(FOUR)))]
    whats += [("op", word, (FOUR, FOUR)) for word in [*NOTHINGS, "minus", "Plus", "not", "first", "and", "or",
                                                      ["plus"]]]
    whats += [("op", word, ()) for word in ["not", "plus"]] + [("op", "plus", (FOUR,) * 3), ("op", "plus", (FOUR,))]
    whats += [("op", "plus", kinds) for kinds in [(FOUR, THREE), (YES_NO, YES_NO), (BOTH, BOTH)]]
    whats += [("op", word, (FOUR, THREE)) for word in ["same", "less"]]
    whats += [("op", "not", (COLOURS,)), ("op", "and", (YES_NO, COLOURS)), ("op", "or", (TWO, YES_NO))]
    whats += [("op", "first", (FOUR,)), ("op", "second", (YES_NO,)), ("op", "pair", (("count", 5), ("count", 5)))]
    whats += [("op", "pair", (("pair", TWO, BOTH), TWO)), ("op", "pair", (("pair", TWO, TWO), ("pair", TWO, TWO)))]
    whats += [("op", "plus", (kind, kind)) for kind in NO_TYPES] + [("op", "same", (kind, kind)) for kind in NO_TYPES]
    whats += [("table", kind, (0, 1, 1, 0), (TWO, TWO)) for kind in NO_TYPES]
    whats += [("table", TWO, (0, 1, 1, 0), (TWO, kind)) for kind in NO_TYPES]
    whats += [("table", TWO, results, (TWO, TWO)) for results in [
        *NOTHINGS, [0, 1, 1, 0], (0, 1, 1), (0, 1, 1, 0, 0), (0, 1, 1, 2), (0, 1, 1, True), (0, 1, None, 0),
        (0, 1, [1], 0)]]
    whats += [("table", TWO, (0, 1, 1, 0), kinds) for kinds in [
        (), [TWO, TWO], TWO, (TWO,), (TWO, TWO, TWO), (TWO, THREE), (("count", 6),) * 40000]]
    whats += [("table", TWO, (), ()), ("table", TWO, (0,), ()), ("op", "plus", (FOUR, FOUR), (FOUR, FOUR)),
              ("tables", TWO, (0, 1, 1, 0), (TWO, TWO)), ("op", TWO, (0, 1, 1, 0), (TWO, TWO))]
    found = [("put", 2, what, (1, 0)) for what in whats]
    found += [("put", 2, ("table", TWO, (0,), ()), ()), ("put", 2, ("table", TWO, (), ()), ()), ("put", 2, ("op", "not", ()), ())]
    cells = [*NOTHINGS, [1, 0], (1,), (1, 0, 0), (1, 100), (-1, 0), (1, True), (False, 0), (1, None), (1, "0"),
             ((1,), 0)]
    found += [("put", 2, what, value) for what in [PLUS[2], TABLE[2]] for value in cells]
    return found + [("put", 2, RIGHT[19][2], value) for value in [(), (0, 0), (100,), 0]]


class TestForms(Case):
    """form_fault"""

    def test_right_ones(self):
        self.exact(form_fault(MADE, ()), None)
        for row in RIGHT:
            with self.subTest(row=row):
                self.exact(form_fault(MADE, (row,)), None)
                self.exact(form_fault(MADE, (row, ("if", 0, (("a", (row, row)), ("b", (row,)))), row)), None)
        self.exact(form_fault(MADE, tuple(RIGHT)), None)
        for made in swift_programs(41, 20):
            self.exact(form_fault(made, compiled(made)), None)

    def test_what_is_no_tuple(self):
        for value in [*NOTHINGS, [PLUS], {0: PLUS}, "get"]:
            if not isinstance(value, tuple):
                self.exact(form_fault(MADE, value), ())
        for value in NOTHINGS:
            if isinstance(value, tuple) and value:
                self.exact(form_fault(MADE, value), (0,))

    def test_wrong_rows(self):
        for row in wrong_rows():
            with self.subTest(row=row if len(repr(row)) < 1000 else "long"):
                self.exact(form_fault(MADE, (row,)), (0,))
                self.exact(form_fault(MADE, (PLUS, row, None)), (1,))
                inner = ("if", 0, (("a", ()), ("b", (PLUS, PLUS, row)), ("c", (None,)), 0))
                self.exact(form_fault(MADE, (PLUS, inner, None)), (1, 1, 2))
                deeper = ("if", 1, (("no", (PLUS, inner, None)), ("no", ())))
                self.exact(form_fault(MADE, (PLUS, PLUS, deeper)), (2, 0, 1, 1, 2))

    def test_cells(self):
        for cell, fits in [(0, True), (1, True), (50, True), (99, True), (100, False), (-1, False), (True, False),
                           (False, False), (None, False), (10 ** 39, False)]:
            for row in [("get", cell, "s"), ("const", cell, TWO, 1), ("load", cell, "x.h"), ("copy", cell, 1),
                        ("copy", 1, cell), exchanged(PLUS, 1, cell), exchanged(PLUS, 3, (cell, 1)),
                        exchanged(PLUS, 3, (1, cell)), ("if", cell, ()), ("tell", "x", cell), ("store", "x.h", cell)]:
                self.exact(form_fault(MADE, (row,)), None if fits else (0,))

    def test_branches(self):
        rows = (PLUS,)
        for branches, path in [
            ((), None), ((("a", ()),), None), ((("a", rows), ("b", rows)), None), ((("a", rows), ("a", rows)), (1,)),
            ((("a", ()), ("b", ()), ("a", None)), (2,)), ((("a", (None,)), ("a", ())), (0, 0)), (("a",), (0,)),
            ((("a",),), (0,)), ((("a", (), ()),), (0,)), (((),), (0,)), ((["a", ()],), (0,)), ((None,), (0,)),
            (({},), (0,)), ((("a", None),), (0,)), ((("a", [PLUS]),), (0,)), ((("a", "b"),), (0,)),
            ((("a", {}),), (0,)),
            ((("A", ()),), (0,)), ((("", ()),), (0,)), ((("abcdefghi", ()),), (0,)), (((1, ()),), (0,)),
            (((None, ()),), (0,)), (((True, ()),), (0,)), ((([], ()),), (0,)), (((("a",), ()),), (0,)),
            ((("a b", ()),), (0,)),
            ((("a", (PLUS, 3)), None), (0, 1)), ((None, ("a", (3,))), (0,)),
            ((("a", ()), ("b", (PLUS, PLUS, []))), (1, 2)),
        ]:
            want = None if path is None else (1, *path)
            with self.subTest(branches=branches):
                self.exact(form_fault(MADE, (PLUS, ("if", 4, branches))), want)
                self.exact(form_fault(MADE, (PLUS, ("if", 4, branches), None)), want or (2,))
                outer = ("if", 3, (("x", ()), ("y", (("if", 4, branches), PLUS))))
                self.exact(form_fault(MADE, (PLUS, outer)), None if path is None else (1, 1, 0, *path))

    def test_an_if_comes_ahead_of_its_branches(self):
        self.exact(form_fault(MADE, (("if", 100, (("a", (None,)),)),)), (0,))
        self.exact(form_fault(MADE, (("if", 0, (("a", (None,)),), 0),)), (0,))

    def test_ifs_deep_within_one_another(self):
        rows = (PLUS, None)
        for _ in range(50):
            rows = (("if", 0, (("a", rows),)),)
        self.exact(form_fault(MADE, rows), (0, 0) * 50 + (1,))
        self.exact(cells_in(rows[:0]), ())

    def test_many_branches(self):
        words = [a + b + c for a in "abcdefghijklmnop" for b in "abcdefghijklmnop" for c in "abcdefghijklmnop"]
        branches = tuple((word, ()) for word in words)
        self.exact(form_fault(MADE, (("if", 0, branches),)), None)
        self.exact(form_fault(MADE, (("if", 0, branches + (("aaa", ()),)),)), (0, len(words)))

    def test_arguments_stay(self):
        for value in [[PLUS], (("if", 0, [("a", ())]),), (("put", 2, ["op"], {}),)]:
            self.untouched(form_fault, MADE, value)


class TestCells(Case):
    """cells_in"""

    def test_cells_in(self):
        for rows, want in [
            ((), ()), ((("get", 7, "s"),), (7,)), ((("const", 3, TWO, 1),), (3,)), ((("load", 2, "x.h"),), (2,)),
            ((("copy", 9, 4),), (4, 9)), ((("copy", 4, 9),), (4, 9)), ((PLUS,), (0, 1, 2)),
            ((("tell", "x", 99),), (99,)),
            ((("store", "x.h", 12),), (12,)), ((("renew", ("x.h",)),), ()), ((("if", 5, ()),), (5,)),
            ((("if", 5, (("a", ()), ("b", (("copy", 30, 20), ("if", 10, (("c", (PLUS,)),)))))), ("get", 5, "s")),
             (0, 1, 2, 5, 10, 20, 30)),
            ((("get", 98, "s"), ("get", 0, "s"), ("get", 98, "t"), ("get", 9, "t")), (0, 9, 98)),
        ]:
            self.exact(cells_in(rows), want)
