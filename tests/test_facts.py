"""The judge of rows: [6.3] and [6.4]."""

from cases import Case, NOTHINGS
from samples import FOUR, SUM, THREE, TWO, YES_NO
from test_rows import MADE, wrong_rows
from tickworks.facts import facts_behind, judge_rows
from tickworks.nodes import Program
from tickworks.nodetexts import read_program
from words import Words

# z is s, joined again out of two halves.
PARTS = read_program("""node parts
in s count(4)
in b lot(no,yes)
out z x
x = when s b yes
y = when s b no
z = choose b y x
""")
GET, COND = ("get", 0, "s"), ("get", 1, "b")
TELL_X = ("if", 1, (("yes", (("tell", "x", 0),)),))
TELLS = (("if", 1, ()), ("tell", "z", 0), TELL_X)
NOT = ("op", "not", (YES_NO,))
AND = ("op", "and", (YES_NO, YES_NO))


class Judged(Case):
    """What judges of rows tell."""

    def judged(self, made, rows, want):
        """Checks what the judge tells, and that the words of the document do."""
        with self.subTest(rows=rows):
            self.exact(judge_rows(made, rows), want)
            self.exact(Words(made).fault(rows), want)

    def against(self, made, rows, *path):
        """Checks that the row at this path is against [6.3]."""
        self.judged(made, rows, ("row", path))


class TestEachRow(Judged):
    """Each kind of row, let by and not."""

    def test_let_by(self):
        self.judged(PARTS, (GET, COND, *TELLS), None)
        self.judged(PARTS, (COND, GET, ("if", 1, (("no", (("copy", 2, 0),)), ("yes", (("copy", 2, 0),)))),
                            ("tell", "z", 2), TELL_X), None)

    def test_copies(self):
        self.against(PARTS, (("copy", 1, 0), GET, COND, *TELLS), 0)
        self.against(PARTS, (GET, ("copy", 0, 1), COND, *TELLS), 1)
        self.judged(PARTS, (GET, ("copy", 0, 0), COND, *TELLS), None)
        # A fact of a stream that is not sure is not enough.
        rows = (GET, COND, ("if", 1, (("yes", (("copy", 5, 0),)),)))
        self.judged(PARTS, rows + TELLS, None)
        never = read_program("node n\nin s count(4)\nin b lot(no,yes)\nout o\no = op plus x x\nx = when s b yes\n")
        plus = ("put", 2, ("op", "plus", (FOUR, FOUR)), (0, 0))
        done = (GET, COND, ("if", 1, (("yes", (plus, ("tell", "o", 2))),)))
        self.judged(never, done, None)
        open_put = (GET, COND, ("if", 1, (("yes", (plus,)),)), ("copy", 3, 2),
                    ("if", 1, (("yes", (("tell", "o", 3),)),)))
        self.against(never, open_put, 3)
        moved = (("if", 1, (("yes", (("copy", 3, 2), ("tell", "o", 3))),)),)
        self.judged(never, open_put[:3] + moved, None)
        self.exact(facts_behind(never, open_put[:3] + moved), [(0, ("s", "x")), (1, ("b",)), (2, ("o",)), (3, ("o",))])

    def test_puts(self):
        made = read_program("""node n
in a lot(no,yes)
in k lot(off,low,top)
out o
o = op not a
t = table count(2) 0 1 1 : k
p = op same k k
""")
        gets = (("get", 0, "a"), ("get", 1, "k"))
        tell = (("put", 2, NOT, (0,)), ("tell", "o", 2))
        self.judged(made, gets + tell, None)
        self.against(made, gets + (("put", 2, NOT, (1,)),) + tell, 2)
        self.against(made, gets + (("put", 2, NOT, (3,)),) + tell, 2)
        self.against(made, gets + (("put", 2, AND, (0, 1)),) + tell, 2)
        self.against(made, gets + (("put", 2, AND, (1, 0)),) + tell, 2)
        self.judged(made, gets + (("put", 3, AND, (0, 0)),) + tell, None)
        kinds = (("lot", ("off", "low", "top")),)
        self.judged(made, gets + (("put", 3, ("op", "same", kinds * 2), (1, 1)),) + tell, None)
        self.against(made, gets + (("put", 3, ("op", "same", (THREE, THREE)), (1, 1)),) + tell, 2)
        self.judged(made, gets + (("put", 3, ("table", TWO, (1, 1, 1), kinds), (1,)),) + tell, None)
        self.against(made, gets + (("put", 3, ("table", TWO, (1, 1, 1), (("lot", ("off", "top", "low")),)), (1,)),
                                   ) + tell, 2)
        # A put of what no stream is brings no fact, so its cell cannot be read.
        self.against(made, gets + (("put", 3, AND, (0, 0)), ("copy", 4, 3)) + tell, 3)

    def test_tells(self):
        for rows, path in [
            ((GET, COND, ("tell", "z", 0)), (2,)), ((GET, COND, ("tell", "z", 1)), (2,)),
            ((GET, ("tell", "x", 0)), (1,)),
            ((("tell", "x", 0),), (0,)), ((GET, COND, *TELLS, ("tell", "z", 0)), (5,)),
            ((GET, COND, *TELLS, TELL_X), (5, 0, 0)), ((GET, COND, *TELLS[:2],
                                                        ("if", 1, (("no", (("tell", "z", 0),)),))), (4, 0, 0)),
            ((GET, COND, ("if", 1, (("no", (("tell", "z", 0),)),)), ("tell", "z", 0)), (3,)),
            ((GET, COND, ("if", 1, (("no", (("tell", "x", 0),)),))), (2, 0, 0)),
        ]:
            self.against(PARTS, rows, *path)
        halves = ("if", 1, (("yes", (("tell", "z", 0), ("tell", "x", 0))), ("no", (("tell", "z", 0),))))
        self.judged(PARTS, (GET, COND, halves), None)
        apart = (("if", 1, (("yes", (("tell", "z", 0),)),)), ("if", 1, (("no", (("tell", "z", 0),)),)), TELL_X)
        self.judged(PARTS, (GET, COND, *apart), None)

    def test_loads_and_stores(self):
        made = Program([SUM])
        get, load = ("get", 0, "step"), ("load", 1, "n")
        plus = ("put", 2, ("op", "plus", (FOUR, FOUR)), (1, 0))
        tell, store = ("tell", "m", 2), ("store", "n", 2)
        self.judged(made, (get, load, plus, tell, store), None)
        self.judged(made, (load, get, plus, store, tell), None)
        self.against(made, (get, load, plus, store, tell, store), 5)
        self.against(made, (get, load, plus, ("store", "n", 1), tell), 3)
        self.against(made, (get, load, plus, ("store", "n", 0), tell), 3)
        self.against(made, (get, load, plus, ("store", "n", 7), tell), 3)
        # A load behind a store is no fault, but brings no fact.
        self.judged(made, (get, load, plus, tell, store, load), None)
        self.exact(facts_behind(made, (get, load, plus, tell, store, load)), [(0, ("step",)), (2, ("m",))])
        self.against(made, (get, load, plus, store, tell, load, plus), 6)
        self.against(made, (get, load, plus, store, tell, ("load", 5, "n"), ("copy", 6, 5)), 6)

    def test_loads_behind_stores_at_conditions_that_clash(self):
        made = read_program("node n\nin b lot(no,yes)\nout h\nh = held lot(no,yes) no b b\n")
        get, load, store = ("get", 0, "b"), ("load", 1, "h"), ("store", "h", 0)
        tell = ("tell", "h", 1)
        self.judged(made, (get, ("if", 0, (("no", (load, tell, store)), ("yes", (load, tell, store))))), None)
        self.against(made, (get, ("if", 0, (("no", (store, load, tell)), ("yes", (load, tell, store))))), 1, 0, 2)
        self.judged(made, (get, ("if", 0, (("no", (store,)),)), ("if", 0, (("yes", (load, tell, store)),))),
                    ("told", "h"))
        self.against(made, (get, ("if", 0, (("no", (store,)),)), load, tell, ("if", 0, (("yes", (store,)),))), 3)
        self.judged(made, (get, load, tell, ("if", 0, (("no", (store,)),)), ("if", 0, (("yes", (store,)),))), None)
        self.against(made, (get, load, tell, store, ("if", 0, (("yes", (store,)),))), 4, 0, 0)
        self.against(made, (get, load, tell, ("if", 0, (("yes", (store,)),)), store), 4)

    def test_ifs(self):
        made = read_program("""node n
in k lot(off,low,top)
in s count(4)
out o
o = op plus s s
c = when k k low
""")
        gets = (("get", 0, "k"), ("get", 1, "s"))
        done = (("put", 2, ("op", "plus", (FOUR, FOUR)), (1, 1)), ("tell", "o", 2))
        for row in [("if", 0, ()), ("if", 0, (("low", ()), ("off", ()))),
                    ("if", 0, (("top", ()), ("low", ()), ("off", ())))]:
            self.judged(made, gets + (row,) + done, None)
        for row in [("if", 1, ()), ("if", 3, ()), ("if", 0, (("yes", ()),)), ("if", 0, (("low", ()), ("no", ()))),
                    ("if", 1, (("low", ()),)), ("if", 0, (("low", ()), ("off", ()), ("top", ()), ("more", ())))]:
            self.against(made, gets + (row,) + done, 2)
        # A cell that holds a stream that is not sure cannot be asked.
        put = ("put", 3, ("op", "same", (("lot", ("off", "low", "top")),) * 2), (0, 0))
        self.against(made, gets + (put, ("if", 3, ())) + done, 3)
        # The words of the lot are gone through in the order of the lot, whatever the order of the branches.
        wrong = ("tell", "o", 9)
        rows = gets + (("if", 0, (("top", (wrong,)), ("low", (put, wrong)), ("off", (put, put, wrong)))),) + done
        self.against(made, rows, 2, 2, 2)
        rows = gets + (("if", 0, (("top", (wrong,)), ("low", (put, wrong)))),) + done
        self.against(made, rows, 2, 1, 1)

    def test_the_path_of_the_first_row(self):
        wrong, fine = ("copy", 9, 8), ("copy", 9, 0)
        for rows, path in [
            ((wrong, fine), (0,)), ((GET, fine, wrong, wrong), (2,)),
            ((GET, COND, ("if", 1, (("no", (fine, wrong)), ("yes", ()))), wrong), (2, 0, 1)),
            ((GET, COND, ("if", 1, (("yes", (fine, fine, wrong)), ("no", (fine, wrong))))), (2, 1, 1)),
            ((GET, COND, ("if", 1, (("yes", (fine, fine, wrong)),))), (2, 0, 2)),
            ((GET, COND, ("if", 1, (("no", (("if", 1, (("yes", (wrong,)),)), wrong)),))), (2, 0, 1)),
            ((GET, COND, ("if", 1, (("yes", (("if", 1, (("no", (wrong,)), ("yes", (fine, wrong)))),)),))),
             (2, 0, 0, 1, 1)),
            ((GET, COND, ("if", 8, (("no", (wrong,)),))), (2,)),
        ]:
            self.against(PARTS, rows, *path)


class TestRenews(Judged):
    """Renews, and stores behind them."""

    # h is begun again where a is yes, and, in a call within, where b, on the clock of a, is no.
    INNER = "node inner\nin s count(4)\nout h\nh = held count(4) 2 s s\n"
    MADE = read_program(INNER + """node main
in s count(4)
in a lot(no,yes)
in b lot(no,yes)
out h
h = call inner s : a yes
x = when s a no
c = when b a no
g = call inner x : c no
""")
    ROWS = (("get", 0, "s"), ("get", 1, "a"), ("get", 2, "b"), ("load", 3, "h.h"), ("tell", "h", 3))
    KEEP_H = ("if", 1, (("yes", (("renew", ("h.h",)),)), ("no", (("store", "h.h", 0),))))
    STORE_G = ("store", "g.h", 0)
    RENEW_G = ("renew", ("g.h",))

    def rows(self, *more):
        """Rows that keep h, and more."""
        return self.ROWS + (self.KEEP_H,) + more

    def kept(self, *rows):
        """Rows in the branch of a in which g is there."""
        return ("if", 1, (("no", rows),))

    def test_let_by(self):
        self.judged(self.MADE, self.rows(self.kept(self.STORE_G, ("if", 2, (("no", (self.RENEW_G,)),)))), None)
        self.judged(self.MADE, self.rows(self.kept(("if", 2, (("yes", (self.STORE_G,)), ("no", (self.RENEW_G,)))))),
                    None)
        self.judged(self.MADE, self.rows(self.kept(("if", 2, (("yes", (self.STORE_G,)),
                                                              ("no", (self.RENEW_G,) * 2))))), None)
        twice = ("renew", ("g.h", "g.h"))
        self.judged(self.MADE, self.rows(self.kept(("if", 2, (("yes", (self.STORE_G,)), ("no", (twice,)))))), None)

    def test_conds_that_are_not_sure_or_at_another_word(self):
        n = len(self.ROWS) + 1
        self.against(self.MADE, self.rows(self.RENEW_G), n)
        self.against(self.MADE, self.rows(("if", 2, (("no", (self.RENEW_G,)),))), n, 0, 0)
        self.against(self.MADE, self.rows(self.kept(self.RENEW_G)), n, 0, 0)
        self.against(self.MADE, self.rows(self.kept(("if", 2, (("yes", (self.RENEW_G,)),)))), n, 0, 0, 0, 0)
        self.against(self.MADE, self.ROWS + (("renew", ("h.h",)),), n - 1)
        self.against(self.MADE, self.ROWS + (("if", 1, (("no", (("renew", ("h.h",)),)),)),), n - 1, 0, 0)
        both = ("renew", ("h.h", "g.h"))
        self.against(self.MADE, self.ROWS + (("if", 1, (("yes", (both,)),)),), n - 1, 0, 0)
        self.against(self.MADE, self.ROWS + (("if", 1, (("no", (("if", 2, (("no", (both,)),)),)),)),), n - 1, 0, 0, 0,
                     0)

    def test_stores_behind_renews(self):
        n = len(self.ROWS) + 1
        inner = ("if", 2, (("no", (self.RENEW_G, self.STORE_G)),))
        self.against(self.MADE, self.rows(self.kept(inner)), n, 0, 0, 0, 1)
        inner = ("if", 2, (("no", (self.RENEW_G,)),))
        self.against(self.MADE, self.rows(self.kept(inner, self.STORE_G)), n, 0, 1)
        self.judged(self.MADE, self.rows(self.kept(inner, ("if", 2, (("yes", (self.STORE_G,)),)))), None)
        self.judged(self.MADE, self.rows(self.kept(inner), self.kept(("if", 2, (("yes", (self.STORE_G,)),)))), None)

    def test_loads_behind_renews(self):
        load, copy = ("load", 5, "g.h"), ("copy", 6, 5)
        n = len(self.ROWS) + 1
        inner = ("if", 2, (("no", (self.RENEW_G, load, copy)), ("yes", (self.STORE_G,))))
        self.against(self.MADE, self.rows(self.kept(inner)), n, 0, 0, 0, 2)
        inner = ("if", 2, (("no", (self.RENEW_G,)), ("yes", (load, copy, self.STORE_G))))
        self.judged(self.MADE, self.rows(self.kept(inner)), None)

    def test_what_does_not_cover(self):
        self.judged(self.MADE, self.rows(), ("kept", "g.h"))
        self.judged(self.MADE, self.rows(self.kept(self.STORE_G)), ("kept", "g.h"))
        self.judged(self.MADE, self.rows(self.kept(("if", 2, (("no", (self.RENEW_G,)),)))), ("kept", "g.h"))
        self.judged(self.MADE, self.rows(self.kept(("if", 2, (("yes", (self.STORE_G,)),)))), ("kept", "g.h"))
        done = self.kept(self.STORE_G, ("if", 2, (("no", (self.RENEW_G,)),)))
        for word, row in [("yes", ("renew", ("h.h",))), ("no", ("store", "h.h", 0))]:
            self.judged(self.MADE, self.ROWS + (("if", 1, ((word, (row,)),)), done), ("kept", "h.h"))
        self.judged(self.MADE, self.ROWS + (("store", "h.h", 0), done), ("kept", "h.h"))
        self.judged(self.MADE, self.ROWS + (("store", "h.h", 0), ("if", 1, (("yes", (("renew", ("h.h",)),)),)), done),
                    None)
        self.judged(self.MADE, self.ROWS, ("kept", "h.h"))
        self.judged(self.MADE, self.ROWS[:-1], ("told", "h"))

    def test_one_again_of_several(self):
        made = read_program(self.INNER + """node outer
in s count(4)
in c lot(no,yes)
out h
h = call inner s : c yes
node main
in s count(4)
in a lot(no,yes)
in b lot(no,yes)
out h
h = call outer s b : a yes
""")
        held = "h.h.h"
        rows = (("get", 0, "s"), ("get", 1, "a"), ("get", 2, "b"), ("load", 3, held), ("tell", "h", 3))
        renew, store = ("renew", (held,)), ("store", held, 0)
        by_a, by_b = ("if", 1, (("yes", (renew,)),)), ("if", 2, (("yes", (renew,)),))
        self.judged(made, rows + (store, by_a, by_b), None)
        self.judged(made, rows + (store, by_b, by_a), None)
        self.judged(made, rows + (store, by_a), ("kept", held))
        self.judged(made, rows + (store, by_b), ("kept", held))
        self.judged(made, rows + (by_a, by_b), ("kept", held))
        both = ("if", 1, (("yes", (renew,)), ("no", (("if", 2, (("yes", (renew,)), ("no", (store,)))),))))
        self.judged(made, rows + (both,), None)
        self.judged(made, rows + (("if", 1, (("yes", (by_b,)), ("no", (store, by_b)))),), ("kept", held))
        self.against(made, rows + (("if", 2, (("no", (renew,)),)),), 5, 0, 0)
        self.against(made, rows + (by_a, store, by_b), 6)


class TestClosing(Judged):
    """Facts closed up, in branches and behind them."""

    def behind(self, made, rows, want):
        """Checks the facts behind rows that are let by."""
        self.judged(made, rows, None)
        self.exact(facts_behind(made, rows), want)

    def test_an_if_without_rows_brings_facts(self):
        self.behind(PARTS, (GET, COND, *TELLS), [(0, ("s", "x", "y", "z")), (1, ("b",))])
        self.against(PARTS, (GET, COND, ("tell", "z", 0)), 2)

    def test_when_both_ways(self):
        made = read_program("""node n
in s count(4)
in b lot(no,yes)
out o z
x = when s b yes
y = op plus s s
w = when y b no
z = choose b w x
v = when z b yes
o = op plus z z
""")
        plus = ("op", "plus", (FOUR, FOUR))
        ahead = (("get", 0, "s"), ("get", 1, "b"), ("put", 2, plus, (0, 0)),
                 ("if", 1, (("yes", (("copy", 3, 0),)), ("no", (("copy", 3, 2),)))))
        done = (("tell", "z", 3), ("put", 4, plus, (3, 3)), ("tell", "o", 4))
        self.behind(made, ahead + done, [
            (0, ("s", "x", "v")), (1, ("b",)), (2, ("y", "w")), (3, ("x", "w", "z", "v")), (4, ("o",))])
        # Where b is yes a fact with z brings one with v and with x, and that one with s; not elsewhere.
        inner = ("put", 5, plus, (3, 3))
        told = ahead + done[:1] + (("if", 1, (("yes", (inner, ("tell", "o", 5))), ("no", (inner, ("tell", "o", 5))))),)
        self.behind(made, told, [
            (0, ("s", "x", "v")), (1, ("b",)), (2, ("y", "w")), (3, ("x", "w", "z", "v")), (5, ("o",))])

    def test_args_and_as_both_ways(self):
        made = read_program("""node low
in a count(4)
in c lot(no,yes)
out e
e = op plus a a
node main
in s count(4)
in b lot(no,yes)
out p q
p = call low s b
q = call low p b
""")
        plus = ("op", "plus", (FOUR, FOUR))
        rows = (("get", 0, "s"), ("put", 1, plus, (0, 0)), ("tell", "p", 1), ("put", 2, plus, (1, 1)), ("tell", "q", 2))
        self.behind(made, rows, [(0, ("s", "p.a")), (1, ("p.e", "p", "q.a")), (2, ("q.e", "q"))])
        rows = (("get", 9, "b"),) + rows
        self.behind(made, rows, [(0, ("s", "p.a")), (1, ("p.e", "p", "q.a")), (2, ("q.e", "q")),
                                 (9, ("b", "p.c", "q.c"))])

    def test_choose_both_ways(self):
        made = read_program("""node n
in s count(4)
in b lot(no,yes)
out h
h = held count(4) 0 z s
z = choose b y x
x = when s b yes
y = when g b no
g = op plus s s
""")
        rows = (("get", 0, "s"), ("get", 1, "b"), ("load", 2, "h"), ("tell", "h", 2),
                ("put", 3, ("op", "plus", (FOUR, FOUR)), (0, 0)))
        # In each branch what holds the branch's stream holds z.
        self.behind(made, rows + (("if", 1, (("no", (("store", "h", 3),)), ("yes", (("store", "h", 0),)))),), [
            (0, ("s", "x")), (1, ("b",)), (2, ("h",)), (3, ("y", "g"))])
        for word, cell in [("no", 0), ("yes", 3)]:
            self.against(made, rows + (("if", 1, ((word, (("store", "h", cell),)),)),), 5, 0, 0)
        self.behind(made, rows + (("if", 1, (("no", (("copy", 0, 3),)),)), ("store", "h", 0)), [
            (0, ("z", "x", "y")), (1, ("b",)), (2, ("h",)), (3, ("y", "g"))])
        self.behind(made, rows + (("if", 1, (("yes", (("copy", 3, 0),)),)), ("store", "h", 3)), [
            (0, ("s", "x")), (1, ("b",)), (2, ("h",)), (3, ("z", "x", "y"))])
        # The other way: what holds z holds, where b is yes, x, and so s.
        back = ("if", 1, (("yes", (("put", 5, ("op", "plus", (FOUR, FOUR)), (0, 0)), ("copy", 6, 5))),))
        self.behind(made, rows + (("if", 1, (("no", (("copy", 0, 3),)),)), ("store", "h", 0), back), [
            (0, ("z", "x", "y")), (1, ("b",)), (2, ("h",)), (3, ("y", "g"))])

    def test_equal_consts_ops_and_tables(self):
        made = read_program("""node n
in b lot(no,yes)
in c lot(no,yes)
out o
o = const lot(no,yes) yes b
p = const lot(no,yes) yes d
q = const lot(no,yes) no b
d = when b c yes
r = const lot(no,many,yes) yes b
""")
        rows = (("const", 0, YES_NO, "yes"), ("tell", "o", 0), ("const", 1, YES_NO, "no"),
                ("const", 2, ("lot", ("no", "many", "yes")), "yes"), ("const", 3, TWO, 1))
        self.behind(made, rows, [(0, ("o", "p")), (1, ("q",)), (2, ("r",))])
        made = read_program("""node n
in b lot(no,yes)
in c lot(no,yes)
out o
o = op and b c
p = op and b c
q = op and c b
r = op and b b
s = table count(2) 0 1 : b
t = table count(2) 0 1 : b
u = table count(2) 1 0 : b
v = table count(2) 0 1 : c
""")
        table = ("table", TWO, (0, 1), (YES_NO,))
        rows = (("get", 0, "b"), ("get", 1, "c"), ("put", 2, AND, (0, 1)), ("tell", "o", 2), ("put", 3, AND, (1, 0)),
                ("put", 4, AND, (0, 0)), ("put", 5, table, (0,)), ("put", 6, table, (1,)),
                ("put", 7, ("table", TWO, (1, 0), (YES_NO,)), (0,)), ("put", 8, ("table", TWO, (1, 1), (YES_NO,)),
                                                                      (0,)),
                ("put", 9, ("op", "or", (YES_NO, YES_NO)), (0, 1)), ("put", 10, ("table", THREE, (0, 1), (YES_NO,)),
                                                                     (0,)))
        self.behind(made, rows, [(0, ("b",)), (1, ("c",)), (2, ("o", "p")), (3, ("q",)), (4, ("r",)), (5, ("s", "t")),
                                 (6, ("v",)), (7, ("u",))])

    def test_writing_ends_facts(self):
        self.behind(PARTS, (GET, COND, *TELLS, ("copy", 2, 0), ("get", 0, "b"), ("copy", 2, 1), ("copy", 1, 1)), [
            (0, ("b",)), (1, ("b",)), (2, ("b",))])
        self.behind(PARTS, (GET, COND, *TELLS, ("const", 0, FOUR, 3)), [(1, ("b",))])
        self.behind(PARTS, (GET, COND, *TELLS, ("if", 1, (("yes", (("const", 0, FOUR, 3),)),))),
                    [(0, ("y",)), (1, ("b",))])
        self.behind(PARTS, (GET, COND, *TELLS, ("if", 1, (("no", (("copy", 0, 1),)),))), [(0, ("x",)), (1, ("b",))])

    def test_a_put_on_its_own_operand(self):
        made = read_program("node n\nin b lot(no,yes)\nout o\nc = op not b\no = op not c\nd = op not o\n")
        put = ("put", 0, NOT, (0,))
        self.behind(made, (("get", 0, "b"), put, put, ("tell", "o", 0)), [(0, ("o",))])
        self.behind(made, (("get", 0, "b"), put, put, ("tell", "o", 0), put), [(0, ("d",))])
        self.behind(made, (("get", 0, "b"), put, put, ("tell", "o", 0), ("copy", 0, 0)), [(0, ("o",))])


class TestPassedOver(Judged):
    """Words that are passed over, and ifs of which all are."""

    def test_words_that_the_conditions_do_not_have(self):
        wrong = ("copy", 9, 8)
        inner = ("if", 1, (("no", (wrong, wrong)), ("yes", (("tell", "x", 0),))))
        self.judged(PARTS, (GET, COND, TELLS[0], ("tell", "z", 0), ("if", 1, (("yes", (inner,)),))), None)
        self.judged(PARTS, (GET, COND, TELLS[0], ("tell", "z", 0), ("if", 1,
                                                                    (("no", (("if", 1, (("yes", (wrong,)),)),)),)),
                            TELL_X), None)
        self.against(PARTS, (GET, COND, TELLS[0], ("if", 1, (("no", (("if", 1, (("no", (wrong,)),)),)),))), 3, 0, 0, 0,
                     0)

    # z is c where c is yes; f, on the clock z no, is c; so f is never yes.
    NEVER = read_program("""node never
in c lot(no,yes)
in e lot(no,yes)
out z f w
y = when c c yes
x = when e c no
z = choose c x y
f = when c z no
d = when f f yes
p = when d d no
q = when d d yes
w = choose d p q
""")
    AHEAD = (("get", 0, "c"), ("get", 1, "e"), ("if", 0, (("no", (("copy", 2, 1),)), ("yes", (("copy", 2, 0),)))),
             ("tell", "z", 2))

    def test_all_words_are_passed_over(self):
        # Where z is no and c is yes the cell of c holds z, too, so no word is left.
        dead = ("if", 2, (("no", (("tell", "f", 0), ("if", 0, (("yes", (("if", 0, ()),)),)))),))
        self.judged(self.NEVER, self.AHEAD + (dead,), None)
        wrong = ("if", 0, (("no", (("copy", 8, 9),)), ("yes", (("copy", 8, 9),))))
        self.judged(self.NEVER, self.AHEAD + (("if", 2, (("no", (("tell", "f", 0), ("if", 0, (("yes", (wrong,)),)))),
                                                         )),), None)
        # Without that if the words of z and c are those of a tick at which w would have to be told.
        self.judged(self.NEVER, self.AHEAD + (("if", 2, (("no", (("tell", "f", 0),)),)),), ("told", "w"))
        alive = ("if", 2, (("no", (("tell", "f", 0), ("if", 0, (("no", (("if", 0, ()),)),)))),))
        self.judged(self.NEVER, self.AHEAD + (alive,), ("told", "w"))

    def test_all_words_of_another_if_lead_there(self):
        # The words of e tell nothing of z and c: where both its words lead to such an if, no tick is left.
        dead = ("if", 0, ())
        for branches, want in [
            ((("no", (dead,)), ("yes", (dead,))), None), ((("no", (dead,)),), ("told", "w")), ((("yes", (dead,)),), ("told", "w")),
        ]:
            asked = ("if", 0, (("yes", (("if", 1, branches),)),))
            self.judged(self.NEVER, self.AHEAD + (("if", 2, (("no", (("tell", "f", 0), asked)),)),), want)

    def test_groups_hold_where_their_conditions_are_so(self):
        # p and q are equal where d is yes; elsewhere p may be no and q yes, so that y is there.
        made = read_program("""node n
in a lot(no,yes)
in c lot(no,yes)
in d lot(no,yes)
out p m y
p = op and a c
q = op and a e
n = when a d no
b = when c d yes
e = choose d n b
x = when a p no
m = when q p no
y = when x m yes
""")
        rows = (("get", 0, "a"), ("get", 1, "c"), ("get", 2, "d"), ("put", 4, AND, (0, 1)),
                ("if", 2, (("no", (("copy", 5, 0),)), ("yes", (("copy", 5, 1),)))), ("put", 6, AND, (0, 5)),
                ("tell", "p", 4), ("if", 4, (("no", (("tell", "m", 6),)),)))
        equal = (("put", 8, AND, (0, 1)), ("if", 8, ()))
        told = ("if", 6, (("yes", (("tell", "y", 0),)),))
        self.judged(made, rows, ("told", "y"))
        self.judged(made, rows + (("if", 2, (("yes", equal),)),), ("told", "y"))
        self.judged(made, rows + (("if", 4, (("no", (told,)),)),), None)
        only_no = ("if", 4, (("no", (("if", 2, (("no", (told,)),)),)),))
        self.judged(made, rows + (only_no,), ("told", "y"))
        self.judged(made, rows + (("if", 2, (("yes", equal),)), only_no), None)
        self.judged(made, rows + (only_no, ("if", 2, (("yes", equal),))), None)
        self.judged(made, rows + (("if", 2, (("no", equal),)), only_no), ("told", "y"))

    def test_facts_behind_are_those_ahead(self):
        # No fact goes, and none comes, behind an if whose words are all passed over.
        dead = ("if", 0, (("no", (("copy", 5, 0),)), ("yes", (("copy", 0, 9),))))
        told = ("if", 0, (("yes", (dead, ("tell", "w", 0))),))
        self.judged(self.NEVER, self.AHEAD + (("if", 2, (("no", (("tell", "f", 0), told)),)),), None)
        told = ("if", 0, (("yes", (dead, ("copy", 6, 5))),))
        self.against(self.NEVER, self.AHEAD + (("if", 2, (("no", (("tell", "f", 0), told)),)),), 4, 0, 1, 0, 1)

    def test_a_group_of_several_roots(self):
        made = read_program("""node n
in b lot(no,yes)
in c lot(no,yes)
out o
k = const lot(no,yes) yes b
l = const lot(no,yes) yes c
w = when c l no
x = when c l yes
o = choose l w x
""")
        rows = (("get", 0, "c"), ("const", 1, YES_NO, "yes"))
        # The cell holds k and l: both get the word.
        self.judged(made, rows + (("if", 1, ()), ("tell", "o", 0)), None)
        inner = ("if", 1, (("no", (("copy", 9, 8),)),))
        self.against(made, rows + (inner, ("tell", "o", 0)), 2, 0, 0)
        self.judged(made, rows + (("if", 1, (("yes", (inner,)),)), ("tell", "o", 0)), None)


class TestLots(Judged):
    """Cells that hold streams of several lots."""

    MADE = read_program("""node n
in b lot(no,yes)
in c lot(no,yes,may)
out o
x = when b b yes
y = when c b no
o = op not b
""")

    def test_the_first_lot_is_meant(self):
        rows = (("get", 0, "b"), ("get", 1, "c"), ("put", 2, NOT, (0,)), ("tell", "o", 2),
                ("if", 0, (("yes", (("copy", 3, 0),)), ("no", (("copy", 3, 1),)))))
        self.judged(self.MADE, rows, None)
        self.exact(facts_behind(self.MADE, rows), [(0, ("b", "x")), (1, ("c", "y")), (2, ("o",)), (3, ("x", "y"))])
        wrong = ("copy", 9, 8)
        # In a branch just one of both is sure; behind the if none is.
        self.against(self.MADE, rows + (("if", 3, ()),), 5)
        for branches, path in [
            ((("may", (wrong,)),), (5,)), ((("may", (wrong,)), ("no", (wrong,))), (5,)),
            ((("no", (("if", 3, (("may", ()),)),)),), None), ((("yes", (("if", 3, (("may", ()),)),)),), (5, 0, 0)),
            ((("yes", (("if", 3, (("yes", ()),)),)),), None), ((("no", (("if", 3, (("may", (wrong,)),)),)),),
                                                               (5, 0, 0, 0, 0)),
            ((("yes", (("if", 3, (("no", (wrong,)),)),)),), None),
        ]:
            self.judged(self.MADE, rows + (("if", 0, branches),), None if path is None else ("row", path))


    def test_two_lots_at_once(self):
        # Where d is yes p and q are equal, and cell 9 holds u or v, as they tell. No tick comes where p is no and q is
        # yes, but the judge does, and there both are sure, and with them k and a, whose whens they are.
        inputs = ["in a lot(no,yes)\n", "in k lot(no,yes,may)\n"]
        rest = """in c lot(no,yes)
in d lot(no,yes)
out o
p = op and a c
q = op and a e
n = when a d no
y = when c d yes
e = choose d n y
u = when k p no
v = when a q yes
o = op not a
"""
        ahead = (("get", 0, "a"), ("get", 1, "c"), ("get", 2, "d"), ("get", 3, "k"), ("put", 4, AND, (0, 1)),
                 ("if", 2, (("no", (("copy", 5, 0),)), ("yes", (("copy", 5, 1),)))), ("put", 6, AND, (0, 5)),
                 ("put", 7, NOT, (0,)), ("tell", "o", 7))
        both = (("put", 8, AND, (0, 1)), ("if", 8, (("no", (("copy", 9, 3),)), ("yes", (("copy", 9, 0),)))))
        wrong = ("copy", 50, 51)
        asks_a, asks_k = [("if", cell, (("yes", (wrong,)),)) for cell in (0, 3)]
        for first, branches, path in [
            (0, (("may", (wrong,)),), (0, 0)), (1, (("may", (wrong,)),), (0, 0)), (0, (("no", (asks_a,)),), None),
            (0, (("no", (asks_k,)),), (0, 0, 0, 0)), (1, (("no", (asks_k,)),), None),
            (1, (("no", (asks_a,)),), (0, 0, 0, 0)),
            (0, (("no", ()), ("may", (asks_k,))), None), (0, (("may", (asks_a,)), ("no", ())), (0, 0, 0, 0)),
            (1, (("maybe", ()),), ()), (0, (("no", (wrong,)), ("may", ())), (0, 0)),
        ]:
            made = read_program("node n\n" + inputs[first] + inputs[1 - first] + rest)
            asked = ("if", 4, (("no", (("if", 6, (("yes", (("if", 9, branches),)),)),)),))
            rows = ahead + (("if", 2, (("yes", both + (asked,)),)),)
            self.judged(made, rows, None if path is None else ("row", (9, 0, 2, 0, 0, 0, 0) + path))
        # A put of one type brings no fact with an op of another one, though the cell holds its argument.
        kinds = {"a": YES_NO, "k": ("lot", ("no", "yes", "may"))}
        for word, cell in [("a", 0), ("k", 3)]:
            made = read_program("node n\n" + "".join(inputs) + rest.replace("op not a", f"op same {word} {word}"))
            told = (("put", 7, ("op", "same", (kinds[word],) * 2), (cell, cell)), ("tell", "o", 7))
            for other in "ak":
                put = ("put", 10, ("op", "same", (kinds[other],) * 2), (9, 9))
                asked = ("if", 4, (("no", (("if", 6, (("yes", (put, ("copy", 11, 10))),)),)),))
                rows = ahead[:-2] + told + (("if", 2, (("yes", both + (asked,)),)),)
                self.judged(made, rows, None if other == word else ("row", (9, 0, 2, 0, 0, 0, 1)))


class TestCovering(Judged):
    """Outputs that are not told wherever they are there, and memories that are not kept."""

    def test_outputs(self):
        for rows, want in [
            ((GET, COND), ("told", "z")), ((GET, COND, *TELLS[:2]), ("told", "x")),
            ((GET, COND, TELLS[0], TELLS[2]), ("told", "z")),
            ((GET, COND, TELL_X, ("if", 1, (("yes", (("tell", "z", 0),)),))), ("told", "z")),
            ((GET, COND, ("if", 1, (("no", (("tell", "z", 0),)),)), TELL_X), ("told", "z")),
            ((GET, COND, TELLS[0], ("tell", "z", 0), ("if", 1, (("yes", ()),))), ("told", "x")), ((), ("told", "z")),
        ]:
            self.judged(PARTS, rows, want)

    def test_the_first_output_in_their_order(self):
        made = read_program("node n\nin b lot(no,yes)\nout o p q\np = op not b\nq = op not p\no = op not q\n")
        ahead = (("get", 0, "b"), ("put", 1, NOT, (0,)), ("put", 2, NOT, (1,)), ("put", 3, NOT, (2,)))
        tells = {"p": ("tell", "p", 1), "q": ("tell", "q", 2), "o": ("tell", "o", 3)}
        for told, want in [("", "o"), ("p", "o"), ("o", "p"), ("op", "q"), ("oq", "p"), ("qo", "p"), ("pq", "o")]:
            self.judged(made, ahead + tuple(tells[word] for word in told), ("told", want))
        self.judged(made, ahead + tuple(tells[word] for word in "qop"), None)

    def test_told_comes_ahead_of_kept(self):
        made = read_program("""node n
in b lot(no,yes)
out o
h = held lot(no,yes) no b b
g = held lot(no,yes) no h b
o = op not h
""")
        ahead = (("get", 0, "b"), ("load", 1, "h"), ("load", 2, "g"), ("put", 3, NOT, (1,)))
        tell, one, two = ("tell", "o", 3), ("store", "h", 0), ("store", "g", 1)
        for rows, want in [((), ("told", "o")), ((one, two), ("told", "o")), ((tell,), ("kept", "h")),
                           ((tell, two), ("kept", "h")),
                           ((tell, one), ("kept", "g")), ((tell, one, two), None), ((two, one, tell), None)]:
            self.judged(made, ahead + rows, want)

    def test_helds_on_clocks(self):
        made = read_program("""node n
in s count(4)
in b lot(no,yes)
in c lot(no,yes)
out o
x = when s b yes
e = when c b yes
h = held count(4) 1 x e
o = op not b
""")
        ahead = (("get", 0, "s"), ("get", 1, "b"), ("get", 2, "c"), ("put", 3, NOT, (1,)), ("tell", "o", 3))
        store = ("store", "h", 0)
        halves = ("if", 2, (("yes", (store,)), ("no", (store,))))
        for rows, want in [
            ((), ("kept", "h")), ((("if", 1, (("yes", (store,)),)),), None),
            ((("if", 1, (("yes", (halves,)),)),), None),
            ((("if", 1, (("yes", (("if", 2, (("yes", (store,)),)),)),)),), ("kept", "h")),
            ((("if", 2, (("yes", (("if", 1, (("yes", (store,)),)),)), ("no", (("if", 1, (("yes", (store,)),)),)))),),
             None),
            ((("if", 2, (("yes", (("if", 1, (("yes", (store,)),)),)),)),), ("kept", "h")),
        ]:
            self.judged(made, ahead + rows, want)
        self.against(made, ahead + (store,), 5)
        self.against(made, ahead + (("if", 1, (("no", (store,)),)),), 5, 0, 0)

    def test_streams_that_are_never_there_need_not_be_told(self):
        made = read_program("""node n
in s count(4)
in b lot(no,yes)
in k lot(off,low,top)
out d n v
d = when b b yes
w = when s b yes
n = when w d no
v = choose k x y z
x = when s k off
y = when s k low
z = when s k top
""")
        # n is on the clock b yes, d no, and the root of d is b.
        ahead = (("get", 0, "s"), ("get", 1, "b"), ("get", 2, "k"), ("if", 2, ()), ("tell", "v", 0))
        self.judged(made, ahead + (("if", 1, (("yes", (("tell", "d", 1),)),)),), None)
        self.judged(made, ahead, ("told", "d"))
        self.against(made, ahead + (("tell", "n", 0),), 5)

    def test_many_conditions_are_few_steps(self):
        # Ten conds that part the way one behind the other: each way through them tells the output.
        inputs = "in a lot(no,yes)\nin b lot(no,yes)\nin c lot(no,yes)\nin d lot(no,yes)\n"
        ops = "e = op not a\nf = op not b\ng = op not c\nh = op not d\ni = op and a b\nj = op and c d\no = op or a d\n"
        made = read_program("node n\n" + inputs + "out o\n" + ops)
        rows = tuple(("get", k, word) for k, word in enumerate("abcd"))
        rows += tuple(("put", 4 + k, NOT, (k,)) for k in range(4))
        rows += (("put", 8, AND, (0, 1)), ("put", 9, AND, (2, 3)), ("put", 10, ("op", "or", (YES_NO, YES_NO)), (0, 3)))
        tell = (("tell", "o", 10),)
        for cell in range(10):
            tell = (("if", cell, (("no", tell), ("yes", tell))),)
        self.exact(judge_rows(made, rows + tell), None)
        tell = (("tell", "o", 10),)
        for cell in range(10):
            tell = (("if", cell, (("no", tell), ("yes", () if cell == 0 else tell))),)
        self.exact(judge_rows(made, rows + tell), ("told", "o"))


class TestForms(Case):
    """What is no rows at all."""

    def test_forms(self):
        for value in NOTHINGS:
            if not isinstance(value, tuple):
                self.exact(judge_rows(MADE, value), ("form", ()))
        for row in wrong_rows()[::7]:
            self.exact(judge_rows(MADE, (row,)), ("form", (0,)))
            self.exact(judge_rows(MADE, (("copy", 0, 1), ("if", 0, (("a", ()), ("b", (row,)))))), ("form", (1, 1, 0)))
        self.exact(judge_rows(MADE, ()), ("told", "x"))

    def test_values_stay_and_lists_are_new(self):
        self.untouched(judge_rows, PARTS, (GET, COND, *TELLS))
        self.untouched(judge_rows, PARTS, [GET, [COND]])
        self.fresh(facts_behind, PARTS, (GET, COND, *TELLS))
