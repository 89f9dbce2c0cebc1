"""Rows made shorter: merged, bared, shared of [6.5]."""

import random
import unittest.mock

from cases import Case
from changes import Change
from drawn import drawn_ticks, swift_programs
from samples import FOUR, SUM, TWO, YES_NO
from shorter import fewer_cells, step_to_bare, step_to_merge, to_the_end
from tickworks.compiler import bared, compiled, merged, shared
from tickworks.facts import judge_rows
from tickworks.machine import run_rows
from tickworks.nodes import Program
from tickworks.nodetexts import read_program
from tickworks.rows import cells_in
from tickworks.runs import tick

PARTS = read_program("""node parts
in s count(4)
in b lot(no,yes)
out z x
x = when s b yes
y = when g b no
z = choose b y x
g = op plus s s
""")
NOT = ("op", "not", (YES_NO,))
GETS = (("get", 0, "s"), ("get", 1, "b"))
PLUS = ("put", 2, ("op", "plus", (FOUR, FOUR)), (0, 0))
Z, X = ("tell", "z", 3), ("tell", "x", 0)
HALVES = (("if", 1, (("yes", (("copy", 3, 0),)),)), ("if", 1, (("no", (("copy", 3, 2),)),)))


class Shorter(Case):
    """Checks of rows before and behind."""

    def becomes(self, call, made, rows, want):
        """Checks that rows are let by, what they become, and that this is let by."""
        with self.subTest(rows=rows):
            self.exact(judge_rows(made, rows), None)
            self.exact(call(made, rows), want)
            self.exact(judge_rows(made, want), None)


class TestMerged(Shorter):
    """merged"""

    def test_two_ifs(self):
        one = ("if", 1, (("yes", (("copy", 3, 0),)), ("no", (("copy", 3, 2),))))
        told = ("if", 1, (("yes", (X,)),))
        self.becomes(merged, PARTS, GETS + (PLUS, *HALVES, Z, told), GETS + (PLUS, one, Z, told))
        both = ("if", 1, (("yes", (("copy", 3, 0), X)), ("no", (("copy", 3, 2),))))
        self.becomes(merged, PARTS, GETS + (PLUS, HALVES[0], told, HALVES[1], Z), GETS + (PLUS, both, Z))

    def test_ifs_apart(self):
        told = ("if", 1, (("yes", (X,)),))
        rows = GETS + (PLUS, *HALVES[:1], ("copy", 9, 0), *HALVES[1:], Z, told)
        self.becomes(merged, PARTS, rows, rows)
        rows = GETS + (PLUS, ("copy", 4, 1), HALVES[0], ("if", 4, HALVES[1][2]), Z, told)
        self.becomes(merged, PARTS, rows, rows)

    def test_the_order_of_branches(self):
        made = read_program("node n\nin k lot(off,low,top)\nin s count(4)\nout o\no = op plus s s\n")
        done = (("put", 2, ("op", "plus", (FOUR, FOUR)), (1, 1)), ("tell", "o", 2))
        gets = (("get", 0, "k"), ("get", 1, "s"))
        a, b, c, d = [("copy", cell, 1) for cell in (5, 6, 7, 8)]
        one, other = ("if", 0, (("top", (a,)), ("low", (b,)))), ("if", 0, (("off", (c,)), ("low", (c, d)), ("top", ())))
        self.becomes(merged, made, gets + (one, other) + done,
                     gets + (("if", 0, (("top", (a,)), ("low", (b, c, d)), ("off", (c,)))),) + done)
        self.becomes(merged, made, gets + (other, one) + done,
                     gets + (("if", 0, (("off", (c,)), ("low", (c, d, b)), ("top", (a,)))),) + done)
        bare = ("if", 0, ())
        self.becomes(merged, made, gets + (bare, one, bare, bare) + done, gets + (one,) + done)
        self.becomes(merged, made, gets + (bare, bare) + done, gets + (bare,) + done)
        inner = ("if", 0, (("low", (one, other, d)),))
        self.becomes(merged, made, gets + (inner,) + done, gets + (
            ("if", 0, (("low", (("if", 0, (("top", (a,)), ("low", (b, c, d)), ("off", (c,)))), d)),)),) + done)

    def test_inner_ifs_that_come_side_by_side(self):
        made = read_program("node n\nin b lot(no,yes)\nin c lot(no,yes)\nout o\no = op not b\n")
        done = (("put", 2, NOT, (0,)), ("tell", "o", 2))
        gets = (("get", 0, "b"), ("get", 1, "c"))
        a, d = ("copy", 5, 1), ("copy", 6, 1)
        one, other = ("if", 1, (("no", (a,)),)), ("if", 1, (("yes", (d,)), ("no", (d,))))
        rows = gets + (("if", 0, (("yes", (a, one)),)), ("if", 0, (("no", (one,)), ("yes", (other, d))))) + done
        joined = ("if", 1, (("no", (a, d)), ("yes", (d,))))
        self.becomes(merged, made, rows, gets + (("if", 0, (("yes", (a, joined, d)), ("no", (one,)))),) + done)

    def test_a_first_one_that_writes_the_cell(self):
        made = read_program("node n\nin b lot(no,yes)\nin c lot(no,yes)\nout o\no = op not b\n")
        done = (("put", 2, NOT, (0,)), ("tell", "o", 2))
        gets = (("get", 0, "b"), ("get", 1, "c"), ("copy", 3, 1))
        writes = ("if", 3, (("yes", (("copy", 3, 1),)),))
        deeper = ("if", 3, (("yes", (("if", 1, (("no", (("get", 3, "c"),)),)),)),))
        plain = ("if", 3, (("yes", (("copy", 4, 1),)),))
        self.becomes(merged, made, gets + (writes, plain) + done, gets + (writes, plain) + done)
        self.becomes(merged, made, gets + (deeper, plain) + done, gets + (deeper, plain) + done)
        both = ("if", 3, (("yes", (("copy", 4, 1), ("copy", 3, 1))),))
        self.becomes(merged, made, gets + (plain, writes) + done, gets + (both,) + done)

    def test_rows_that_would_not_be_let_by(self):
        # Behind the first if the cell of b holds z, so that in the second one z has the word, too.
        made = read_program("""node n
in b lot(no,yes)
in c lot(no,yes)
out w
z = choose b x y
x = when b b no
y = when b b yes
w = choose z u v
u = when c z no
v = when c z yes
""")
        gets = (("get", 0, "b"), ("get", 1, "c"))
        tells = ("if", 0, (("no", (("tell", "w", 1),)), ("yes", (("tell", "w", 1),))))
        bare = ("if", 0, ())
        self.exact(judge_rows(made, gets + (tells,)), ("row", (2, 0, 0)))
        self.becomes(merged, made, gets + (bare, tells), gets + (bare, tells))
        # Of three the first two are made one, then no more; and so at each place, the first one that may be ahead.
        self.becomes(merged, made, gets + (bare, bare, tells), gets + (bare, tells))
        one, other = [("if", 1, ((word, (("copy", 5, 0),)),)) for word in ("no", "yes")]
        joined = ("if", 1, one[2] + other[2])
        self.becomes(merged, made, gets + (bare, tells, one, other), gets + (bare, tells, joined))
        self.becomes(merged, made, gets + (bare, bare, one, other, bare, tells), gets + (bare, joined, tells))
        ahead = ("if", 0, (("no", (("copy", 6, 0),)),))
        self.becomes(merged, made, gets + (ahead, bare, tells), gets + (ahead, tells))

    def test_two_places(self):
        made = read_program("node n\nin b lot(no,yes)\nin c lot(no,yes)\nout o\no = op not c\n")
        gets = (("get", 0, "b"), ("get", 1, "c"))
        done = (("put", 3, NOT, (1,)), ("tell", "o", 3))
        one, other = ("if", 0, (("no", (("copy", 5, 1),)),)), ("if", 0, (("yes", (("copy", 6, 1),)),))
        self.becomes(merged, made, gets + (one, other) + done + (other, one), gets + (
            ("if", 0, one[2] + other[2]),) + done + (("if", 0, other[2] + one[2]),))

    def test_by_the_words(self):
        chance = random.Random(71)
        changes = 0
        for made in swift_programs(71, 60) + swift_programs(72, 60, True):
            for rows in some_rows(made, chance):
                found = merged(made, rows)
                self.exact(found, to_the_end(step_to_merge, made, rows))
                changes += found != rows
        self.assertGreater(changes, 60)


def some_rows(made, chance):
    """Some rows of a program that are let by."""
    base = compiled(made)
    found = [base]
    change = Change(chance, made)
    for _ in range(6):
        rows = change.changed(change.changed(chance.choice(found)))
        if len(repr(rows)) < 2000 and judge_rows(made, rows) is None:
            found.append(rows)
    return found


class TestBared(Shorter):
    """bared"""

    def test_cells_that_nobody_wants(self):
        rows = GETS + (PLUS, *HALVES, Z, ("if", 1, (("yes", (X,)),)))
        self.becomes(bared, PARTS, rows, rows)
        for extra in [("copy", 7, 0), ("get", 7, "s"), ("const", 7, TWO, 1), ("put", 7, PLUS[2], (0, 0)),
                      ("copy", 0, 0)]:
            more = rows + (extra,)
            self.becomes(bared, PARTS, more, rows)
        for extra in [("copy", 7, 0), ("get", 7, "s"), ("const", 7, TWO, 1), ("copy", 2, 0), ("get", 2, "s")]:
            self.becomes(bared, PARTS, GETS + (extra,) + rows[2:], rows)
        self.becomes(bared, PARTS, GETS + (("copy", 8, 0), ("copy", 7, 8), ("copy", 6, 7)) + rows[2:], rows)
        copies = (("copy", 8, 0), ("copy", 7, 8), ("tell", "x", 7))
        self.becomes(bared, PARTS, rows[:-1] + (("if", 1, (("yes", copies),)),),
                     rows[:-1] + (("if", 1, (("yes", copies),)),))

    def test_cells_that_are_written_again(self):
        # The first put is read on no way ahead of the second one; a copy in one branch only leaves a way.
        tail = (Z, ("if", 1, (("yes", (X,)),)))
        rows = GETS + (PLUS, ("copy", 3, 0), *HALVES) + tail
        self.becomes(bared, PARTS, rows, rows)
        self.becomes(bared, PARTS, GETS + (PLUS, ("copy", 3, 0), ("copy", 3, 2), *HALVES) + tail,
                     GETS + (PLUS, ("copy", 3, 2), *HALVES) + tail)
        halves = ("if", 1, (("yes", (("copy", 3, 2), ("copy", 3, 0))), ("no", (("copy", 3, 2), ("get", 0, "s")))))
        self.becomes(bared, PARTS, GETS + (PLUS, halves) + tail, GETS + (
            PLUS, ("if", 1, (("yes", (("copy", 3, 0),)), ("no", (("copy", 3, 2), ("get", 0, "s"))))),) + tail)

    def test_branches_without_rows_and_ifs_without_branches(self):
        rows = GETS + (PLUS, *HALVES, Z, ("if", 1, (("yes", (X,)),)))
        empty = ("if", 1, (("no", ()), ("yes", (("if", 1, (("yes", ()), ("no", (("copy", 9, 0),)))),))))
        self.becomes(bared, PARTS, rows + (empty,), rows)
        self.becomes(bared, PARTS, rows[:2] + (empty, ("if", 1, ())) + rows[2:], rows)
        told = ("if", 1, (("no", ()), ("yes", (X, ("copy", 9, 0)))))
        self.becomes(bared, PARTS, rows[:-1] + (told,), rows)

    def test_ifs_that_bring_facts_stay(self):
        made = read_program("""node n
in s count(4)
in b lot(no,yes)
out z
x = when s b yes
y = when s b no
z = choose b y x
""")
        rows = GETS + (("if", 1, ()), ("tell", "z", 0))
        self.becomes(bared, made, rows, rows)
        self.becomes(bared, made, GETS + (("if", 1, ()), ("if", 1, ()), ("tell", "z", 0)), rows)
        self.becomes(bared, made, GETS + (("copy", 4, 1), ("if", 4, ()), ("if", 1, ()), ("tell", "z", 0),
                                          ("if", 4, ())), rows)
        halves = GETS + (("if", 1, (("no", (("copy", 5, 0),)), ("yes", ()))), ("tell", "z", 0))
        self.becomes(bared, made, halves, rows)
        # The cell of an if that stays is wanted.
        self.becomes(bared, made, GETS + (("copy", 4, 1), ("if", 4, ()), ("tell", "z", 0)),
                     GETS + (("copy", 4, 1), ("if", 4, ()), ("tell", "z", 0)))

    def test_what_is_told_stored_and_renewed_stays(self):
        made = Program([SUM])
        rows = (("get", 0, "step"), ("load", 1, "n"), ("put", 2, PLUS[2], (1, 0)), ("tell", "m", 2), ("store", "n", 2))
        self.becomes(bared, made, rows, rows)
        self.becomes(bared, made, rows[:1] + (("load", 5, "n"),) + rows[1:] + (("load", 1, "n"),), rows)

    def test_by_the_words(self):
        chance = random.Random(73)
        changes = 0
        for made in swift_programs(73, 50) + swift_programs(74, 50, True):
            for rows in some_rows(made, chance):
                found = bared(made, rows)
                self.exact(found, to_the_end(step_to_bare, made, rows))
                changes += found != rows
        self.assertGreater(changes, 50)


class TestShared(Shorter):
    """shared"""

    def test_cells_get_the_least_numbers(self):
        made = Program([SUM])
        plus = PLUS[2]
        for cells, want in [((0, 1, 2), (0, 1, 0)), ((50, 40, 30), (0, 1, 0)), ((9, 8, 9), (0, 1, 0)),
                            ((1, 0, 0), (0, 1, 1))]:
            a, b, c = cells
            rows = (("get", a, "step"), ("load", b, "n"), ("put", c, plus, (b, a)), ("tell", "m", c), ("store", "n", c))
            a, b, c = want
            self.becomes(shared, made, rows, (
                ("get", a, "step"), ("load", b, "n"), ("put", c, plus, (b, a)), ("tell", "m", c), ("store", "n", c)))

    def test_cells_that_are_in_the_way(self):
        made = read_program("""node n
in a count(4)
in b count(4)
out o p
c = op plus a b
o = op plus c a
p = op plus o b
""")
        plus = PLUS[2]

        def rows(a, b, c, o, p):
            return (("get", a, "a"), ("get", b, "b"), ("put", c, plus, (a, b)), ("put", o, plus, (c, a)),
                    ("put", p, plus, (o, b)), ("tell", "p", p), ("tell", "o", o))
        self.becomes(shared, made, rows(10, 11, 12, 13, 14), rows(0, 1, 2, 0, 1))
        self.becomes(shared, made, rows(4, 3, 2, 1, 0), rows(0, 1, 2, 0, 1))

    def test_cells_that_are_written_but_not_wanted(self):
        made = Program([SUM])
        rows = (("get", 5, "step"), ("copy", 9, 5), ("load", 7, "n"), ("put", 6, PLUS[2], (7, 5)), ("const", 8, TWO, 0),
                ("tell", "m", 6), ("store", "n", 6))
        self.becomes(shared, made, rows, (
            ("get", 0, "step"), ("copy", 1, 0), ("load", 1, "n"), ("put", 0, PLUS[2], (1, 0)), ("const", 1, TWO, 0),
            ("tell", "m", 0), ("store", "n", 0)))

    def test_cells_in_branches(self):
        rows = (("get", 10, "s"), ("get", 11, "b"), ("put", 12, PLUS[2], (10, 10)),
                ("if", 11, (("yes", (("copy", 13, 10), ("tell", "x", 13), ("tell", "z", 10))),
                            ("no", (("copy", 14, 12), ("tell", "z", 14))))))
        self.becomes(shared, PARTS, rows, (
            ("get", 0, "s"), ("get", 1, "b"), ("put", 2, PLUS[2], (0, 0)),
            ("if", 1, (("yes", (("copy", 1, 0), ("tell", "x", 1), ("tell", "z", 0))),
                       ("no", (("copy", 0, 2), ("tell", "z", 0)))))))

    def test_cells_that_are_written_nowhere(self):
        # Rows of a word that is passed over may read what they like.
        made = read_program("node n\nin b lot(no,yes)\nout c\nc = op not b\n")
        wrong = (("tell", "c", 70), ("copy", 90, 60), ("if", 80, ()), ("put", 90, NOT, (70,)))
        rows = (("get", 20, "b"), ("put", 30, NOT, (20,)), ("tell", "c", 30),
                ("if", 20, (("no", (("if", 20, (("yes", wrong),)),)),)))
        self.exact(cells_in(rows), (20, 30, 60, 70, 80, 90))
        self.becomes(shared, made, rows, (
            ("get", 0, "b"), ("put", 1, NOT, (0,)), ("tell", "c", 1),
            ("if", 0, (("no", (("if", 0, (("yes", (("tell", "c", 3), ("copy", 0, 2), ("if", 4, ()),
                                                   ("put", 0, NOT, (3,)))),)),)),))))

    def test_rows_that_would_not_be_let_by_stay(self):
        made = Program([SUM])
        rows = (("get", 5, "step"), ("load", 7, "n"), ("put", 6, PLUS[2], (7, 5)), ("tell", "m", 6), ("store", "n", 6))
        with unittest.mock.patch("tickworks.compiler.rows_fault", lambda ground, found: ("row", (0,))):
            self.exact(shared(made, rows), rows)
        self.assertNotEqual(shared(made, rows), rows)

    def test_by_the_words(self):
        chance = random.Random(75)
        changes = 0
        for made in swift_programs(75, 50) + swift_programs(76, 50, True):
            for rows in some_rows(made, chance):
                found = shared(made, rows)
                self.exact(found, fewer_cells(made, rows))
                changes += found != rows
        self.assertGreater(changes, 50)


class TestAll(Case):
    """All three, one behind the other."""

    def test_they_run_alike(self):
        chance = random.Random(77)
        for made in swift_programs(77, 60) + swift_programs(78, 60, True):
            rows = compiled(made)
            for call in [merged, bared, shared, bared, merged]:
                rows = self.untouched(call, made, rows)
                self.exact(judge_rows(made, rows), None)
                for state, inputs in drawn_ticks(made, chance, 2):
                    self.exact(run_rows(made, rows, state, inputs), tick(made, state, inputs))
                self.exact(call(made, rows), rows)
