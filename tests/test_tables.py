"""Tables: [9.5] and [9.6]."""

import itertools
import random

from cases import Case, NOTHINGS
from drawn import swift_programs
from lotwords import rows_of
from samples import BOTH, COLOURS, FOUR, HALVES, SUM, TURNS, TWO, YES_NO
from test_alike import BACKWARDS, SLOWLY, pairs_of_programs, renamed
from test_lots import LATER, WIDE, any_programs
from tickworks.alike import alike
from tickworks.errors import BadProgram, TooMany, TwiceTold
from tickworks.lots import closed_lot
from tickworks.nodes import Program
from tickworks.rounds import first_state
from tickworks.runs import run, tick
from tickworks.tables import as_program, is_table, least_table, run_table, table_of, tables_parted
from tickworks.types import values_of

ADDS = Program([SUM])
# Line 1 and line 2 are like, nothing meets line 3.
LINES = (
    (("good", ("a", None), 1), ("good", ("a", 0), 2)), (("good", (("a", 1), None), 0), ("clash",)),
    (("good", (("a", 1), None), 0), ("clash",)), (("stuck",), ("good", (None, None), 3)))


def drawn_table(chance, lines, length, words):
    """A drawn table."""
    def entry():
        if chance.random() < 0.1:
            return (chance.choice(["clash", "stuck"]),)
        return ("good", (chance.choice(words),), chance.randrange(lines))
    return tuple(tuple(entry() for _ in range(length)) for _ in range(lines))


def drawn_tables(seed, count, length=2):
    """Drawn tables, with few words so that lines are like."""
    chance = random.Random(seed)
    return [drawn_table(chance, chance.randint(1, 7), length, [0, None] if chance.random() < 0.6 else ["a", "b", ("a", 0)])
            for _ in range(count)]


def told_from(table, line, places):
    """What a run from a line tells: words and outputs alone."""
    told = []
    for place in places:
        entry = table[line][place]
        told.append(entry[:2])
        if entry[0] != "good":
            break
        line = entry[2]
    return told


def like_pairs(one, other):
    """The set of the pairs of lines of two tables that are like: all others are struck out, again and again."""
    left = set(itertools.product(range(len(one)), range(len(other))))
    while True:
        wrong = {
            (k, j) for k, j in left
            if any(a[:2] != b[:2] or (a[0] == "good" and (a[2], b[2]) not in left) for a, b in zip(one[k], other[j]))}
        if not wrong:
            return left
        left -= wrong


class TestTables(Case):
    """table_of, run_table"""

    def test_table_of(self):
        turns = table_of(Program([TURNS]))
        self.assertEqual(len(turns[0]), 12)
        self.exact(turns[0][0], ("good", (0, 1), 1))
        self.exact([entry[0] for entry in turns[0]], ["good"] * 4 + ["clash"] * 4 + ["stuck"] * 4)
        self.exact(table_of(ADDS), tuple(
            tuple(("good", ((k + j) % 4,), self.number((k + j) % 4)) for j in range(4)) for k in range(4)))
        self.exact(table_of(Program([HALVES]))[0][:2], (("good", (None, 0), 0), ("good", (0, 0), 0)))

    def number(self, value):
        """The number of a state of ADDS, which is met in its order."""
        return value

    def test_bad_ticks_end_nothing(self):
        self.exact(table_of(LATER), (
            (("good", (0,), 0), ("good", (0,), 1)), (("good", (1,), 1), ("good", (1,), 2)), (("clash",), ("clash",))))
        self.exact(closed_lot(LATER)[0], "run")

    def test_caps(self):
        for made in [ADDS, WIDE, LATER] + swift_programs(410, 20):
            table = table_of(made)
            self.exact(table_of(made, states=len(table)), table)
            if len(table) > 1:
                self.raised(TooMany, {}, lambda: table_of(made, states=len(table) - 1))

    def test_drawn_programs(self):
        for made in any_programs(411, 80) + swift_programs(412, 40):
            table = self.untouched(table_of, made)
            self.exact(is_table(table), True)
            rows = rows_of(made)
            states = [first_state(made)]
            for line, entries in enumerate(table):
                for entry, row in zip(entries, rows, strict=True):
                    told = tick(made, states[line], row)
                    if told[0] == "good" and told[2] not in states:
                        states.append(told[2])
                    self.exact(entry, ("good", told[1], states.index(told[2])) if told[0] == "good" else told[:1])
            self.assertEqual(len(states), len(table))
            chance = random.Random(len(table))
            for _ in range(5):
                numbers = [chance.randrange(len(rows)) for _ in range(chance.randint(0, 6))]
                got = run_table(table, numbers)
                self.exact([entry[:2] for entry in got],
                           [told[:2] if told[0] == "good" else told[:1] for told in run(made, [rows[k] for k in numbers])])

    def test_run_table(self):
        self.exact(run_table(LINES, []), [])
        self.exact(run_table(LINES, [0]), [("good", ("a", None), 1)])
        self.exact(run_table(LINES, (1, 0, 0)), [("good", ("a", 0), 2), ("good", (("a", 1), None), 0),
                                                 ("good", ("a", None), 1)])
        self.exact(run_table(LINES, [0, 1, 0, 0]), [("good", ("a", None), 1), ("clash",)])
        self.fresh(run_table, LINES, [0, 0, 1])


class TestIsTable(Case):
    """is_table"""

    def test_tables(self):
        deep = "a"
        for _ in range(20):
            deep = (deep, 0)
        for value in [LINES, ((("clash",),),), ((("stuck",), ("clash",)),), ((("good", (), 0),),),
                      ((("good", (None,), 0),),), ((("good", (deep, "abcdefgh", 5, 0), 0),),),
                      ((("good", (), 0), ("clash",)),), ((("good", (0,), 1),), (("good", ("x",), 0),)),
                      (LINES * 30)]:
            self.exact(self.untouched(is_table, value), True)

    def test_what_is_none(self):
        good = ("good", ("a",), 0)
        for value in [*NOTHINGS, list(LINES), ((),), ((), ()), (LINES[0], list(LINES[1]), *LINES[2:]), LINES[0],
                      LINES[:3] + (LINES[3][:1],), LINES[:1], LINES[:2], (LINES[0], (), *LINES[2:]), (LINES,),
                      [LINES], {0: LINES}]:
            self.exact(self.untouched(is_table, value), False)
        for entry in [*NOTHINGS, ("good",), ("good", ("a",)), ("good", ("a",), 0, 0), ["good", ("a",), 0], ["clash"],
                      ("clash", 0), ("stuck", ()), ("bad",), ("clash", "stuck"), (None,), (True,), ("good", ["a"], 0),
                      ("good", "a", 0), ("good", None, 0), ("good", ("a",), 1), ("good", ("a",), -1),
                      ("good", ("a",), None), ("good", ("a",), "0"), ("good", ("a",), False), ("good", ("a",), True),
                      ("good", ("a",), (0,)), ("good", ("a",), [0]), ("bad", ("a",), 0), (("good",), ("a",), 0),
                      ("good", (), 0), ("good", ("a", "a"), 0), ("good", (6,), 0), ("good", (-1,), 0),
                      ("good", (True,), 0), ("good", (False,), 0), ("good", ("A",), 0), ("good", ("",), 0),
                      ("good", ("abcdefghi",), 0), ("good", (("a",),), 0), ("good", (("a", "b", "c"),), 0),
                      ("good", (("a", None),), 0), ("good", (["a", "b"],), 0), ("good", (("a", ["b"]),), 0),
                      ("good", (("a", True),), 0), ("good", ((("a", 6), 0),), 0), ("good", ((),), 0),
                      ("good", ({},), 0), ("good", (b"a",), 0), ("good", (10 ** 39,), 0), ("good", ("-",), 0),
                      (["good"], ("a",), 0), ({"good": 1},)]:
            self.exact(self.untouched(is_table, ((good, entry),)), False)
            self.exact(is_table(((entry, good),)), False)
        self.exact(is_table(((good, ("clash",)),)), True)
        self.exact(is_table(((good,), (("good", (), 0),))), False)
        self.exact(is_table(((good,), (("good", ("a",), 2),))), False)
        self.exact(is_table(((good,), (("good", ("a",), 1),))), True)


def changed(table, seed):
    """A table with one drawn entry changed."""
    chance = random.Random(seed)
    lines = [list(line) for line in table]
    line, place = chance.randrange(len(lines)), chance.randrange(len(lines[0]))
    words = [entry[1] for entries in lines for entry in entries if entry[0] == "good"] + [("clash",)]
    word = chance.choice(words)
    lines[line][place] = word if word == ("clash",) else ("good", word, chance.randrange(len(lines)))
    return tuple(map(tuple, lines))


class TestLeast(Case):
    """least_table, tables_parted"""

    def test_least(self):
        self.exact(least_table(LINES), (
            (("good", ("a", None), 1), ("good", ("a", 0), 1)), (("good", (("a", 1), None), 0), ("clash",))))
        self.exact(least_table(((("clash",),), (("stuck",),))), ((("clash",),),))
        self.exact(least_table(((("good", (), 1),), (("good", (), 0),))), ((("good", (), 0),),))
        turned = ((("good", (0,), 2), ("good", (0,), 1)), (("good", (1,), 0), ("good", (1,), 0)),
                  (("good", (2,), 0), ("good", (2,), 0)))
        self.exact(least_table(turned), (
            (("good", (0,), 1), ("good", (0,), 2)), (("good", (2,), 0), ("good", (2,), 0)),
            (("good", (1,), 0), ("good", (1,), 0))))

    def test_deep_pairs(self):
        deep, other = "a", "b"
        for _ in range(25):
            deep, other = (deep, 0), (other, 0)
        table = ((("good", (deep,), 1),), (("good", (other,), 2),), (("good", (deep,), 3),), (("good", (other,), 0),))
        self.exact(least_table(table), ((("good", (deep,), 1),), (("good", (other,), 0),)))
        self.exact(tables_parted(table, table[1:] + table[:1]), (0,))

    def test_by_the_words(self):
        smaller = 0
        for table in drawn_tables(413, 300) + [LINES]:
            least = self.untouched(least_table, table)
            self.exact(is_table(least), True)
            self.exact(least_table(least), least)
            pairs = like_pairs(least, least)
            self.assertEqual(pairs, {(k, k) for k in range(len(least))})
            self.assertIn((0, 0), like_pairs(table, least))
            met = [0]
            for line in met:
                for entry in least[line]:
                    if entry[0] == "good" and entry[2] not in met:
                        met.append(entry[2])
            self.assertEqual(met, list(range(len(least))))
            smaller += len(least) < len(table)
        self.assertGreater(smaller, 150)

    def test_parted(self):
        parted = 0
        ones = drawn_tables(414, 600)
        others = drawn_tables(415, 300) + [changed(table, k) for k, table in enumerate(ones[300:])]
        for one, other in zip(ones, others):
            got = self.untouched(tables_parted, one, other)
            want = None
            if (0, 0) not in like_pairs(one, other):
                want = next(places for many in range(1, 20) for places in itertools.product(range(2), repeat=many)
                            if told_from(one, 0, places) != told_from(other, 0, places))
            self.exact(got, want)
            self.assertEqual(got is None, least_table(one) == least_table(other))
            parted += got is not None and len(got) > 1
        self.assertGreater(parted, 60)
        for table in drawn_tables(416, 60):
            self.exact(tables_parted(table, least_table(table)), None)

    def test_parted_by_words_and_far_away(self):
        self.exact(tables_parted(((("clash",),),), ((("stuck",),),)), (0,))
        self.exact(tables_parted(((("clash",),),), ((("clash",),),)), None)
        self.exact(tables_parted(((("good", (), 0), ("clash",)),), ((("good", (), 0), ("good", (), 0)),)), (1,))
        self.exact(tables_parted(table_of(WIDE), table_of(SLOWLY)), (1,) * 6 + (0,))
        self.exact(tables_parted(table_of(ADDS), table_of(BACKWARDS)), None)

    def test_long_rings(self):
        one = tuple((("good", (int(k == 0),), (k + 1) % 40),) for k in range(40))
        other = tuple((("good", (int(k % 40 == 0),), (k + 1) % 120),) for k in range(120))
        self.exact(tables_parted(one, other), None)
        self.exact(least_table(other), one)
        self.exact(tables_parted(one, other[:-1] + ((("good", (1,), 0),),)), (0,) * 120)

    def test_alike_exactly_if_the_tables_are(self):
        words = {"alike": 0, "parts": 0}
        for one, other in pairs_of_programs(417, 120):
            word, found = alike(one, other)
            words[word] += 1
            tables = table_of(one), table_of(other)
            parted = tables_parted(*tables)
            rows = rows_of(one)
            self.assertEqual(parted is None, word == "alike")
            self.assertEqual(least_table(tables[0]) == least_table(tables[1]), word == "alike")
            if parted is not None:
                self.exact(tuple(rows[k] for k in parted), found)
        self.assertGreater(min(words.values()), 30)


class TestAsProgram(Case):
    """as_program"""

    def test_a_program(self):
        table = ((("good", (0, "yes"), 0), ("good", (1, "no"), 1)), (("good", (1, "no"), 1), ("good", (0, "no"), 0)))
        made = as_program(table, (("b", YES_NO),), (("m", TWO), ("t", YES_NO)))
        self.exact(made.nodes(), [("main", (("b", YES_NO),), ("m", "t"), (
            (("now",), ("held", TWO, 0, "next", "b")), (("next",), ("table", TWO, (0, 1, 1, 0), ("now", "b"))),
            (("m",), ("table", TWO, (0, 1, 1, 0), ("now", "b"))),
            (("t",), ("table", YES_NO, ("yes", "no", "no", "no"), ("now", "b")))))])
        self.exact(table_of(made), table)

    def test_several_inputs(self):
        chance = random.Random(418)
        for inputs in [(("a", COLOURS), ("b", TWO)), (("a", YES_NO), ("b", TWO), ("c", COLOURS)), (("p", BOTH),)]:
            rows = list(itertools.product(*[values_of(kind) for _, kind in inputs]))
            for lines in range(2, min(6, 60 // len(rows)) + 1):
                table = tuple(tuple(("good", (chance.choice(values_of(BOTH)),), chance.randrange(lines)) for _ in rows)
                              for _ in range(lines))
                made = as_program(table, inputs, (("o", BOTH),))
                self.assertEqual(made.main()[:3], ("main", inputs, ("o",)))
                for _ in range(10):
                    numbers = [chance.randrange(len(rows)) for _ in range(8)]
                    self.exact([told[1] for told in run(made, [rows[k] for k in numbers])],
                               [entry[1] for entry in run_table(table, numbers)])
                self.exact(least_table(table_of(made)), least_table(table))

    def test_least_tables_of_programs(self):
        many = 0
        for made in swift_programs(419, 250):
            table = least_table(table_of(made))
            inputs = made.main()[1]
            kinds = dict(made.streams_at(made.main()[0]))
            outputs = tuple((output, kinds[output]) for output in made.main()[2])
            told = [entry for line in table for entry in line]
            fits = all(entry[0] == "good" and None not in entry[1] for entry in told)
            words = [word for word, _ in inputs] + list(made.main()[2])
            if fits and 2 <= len(table) <= 6 and len(told) <= 60 and len(outputs) <= 4 and len(inputs) <= 3:
                self.assertEqual(len(set(words)), len(words))
                many += 1
                other = as_program(table, inputs, outputs)
                self.assertEqual(alike(made, other)[0], "alike")
                self.assertEqual(alike(other, renamed(made, random.Random(many)))[0], "alike")
        self.assertGreater(many, 20)

    def test_words_that_stand_twice(self):
        table = ((("good", (0, 0), 0), ("good", (1, 1), 1)), (("good", (1, 1), 1), ("good", (0, 0), 0)))
        for inputs, outputs, name in [
            ("now", "mo", "now"), ("next", "mo", "next"), ("b", ("now", "o"), "now"), ("b", ("m", "next"), "next"),
            ("b", "mm", "m"), ("b", "bm", "b"), ("b", "mb", "b"), ("now", ("next", "now"), "now"),
            ("b", ("next", "now"), "next"),
        ]:
            words = ((inputs, YES_NO),), tuple((word, TWO) for word in outputs)
            self.raised(TwiceTold, {"name": name}, as_program, table, *words)
        two = ((("good", (0,), 0),) * 4, (("good", (1,), 1),) * 4)
        self.raised(TwiceTold, {"name": "b"}, as_program, two, (("b", YES_NO), ("b", YES_NO)), (("m", TWO),))

    def test_values_of_no_type(self):
        table = ((("good", (0,), 0), ("good", (1,), 1)), (("good", (2,), 1), ("good", (0,), 0)))
        self.raised(BadProgram, {"path": (0, 3, 2, 1, 2, 2)}, as_program, table, (("b", YES_NO),), (("m", TWO),))
        self.exact(len(as_program(table, (("b", YES_NO),), (("m", FOUR),))), 1)
