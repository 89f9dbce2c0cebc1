"""Partings, what their functions ask for, and ticks played by them: [7.2] to [7.4], [7.6], [7.7]."""

import itertools
import random

from cases import Case, NOTHINGS
from drawn import drawn_ticks, swift_programs
from samples import HALVES, SUM, TWICE
from test_needs import PAIRED, alone
from tickworks.errors import BadNumber, BadParting, NotYet, TickError, UnknownName
from tickworks.needs import needs, stream_asks
from tickworks.nodes import Program
from tickworks.nodetexts import read_program
from tickworks.partings import (
    asked_functions, asked_inputs, by_outputs, calling_order, fewest, finer, joined, judge_parting, played,
    single_parting, whole_parting,
)
from tickworks.runs import tick

# A chain from b over c, d to o, and p beside it; f is asked for by nothing.
CHAIN = read_program("""node chain
in a count(2)
in b count(2)
out o p
o = op plus d a
d = op plus c c
c = op plus b b
p = op plus a a
f = op plus p c
""")
GOOD = (("o", "d"), ("c",), ("p", "f"))
WITH_PARTING = [asked_functions, asked_inputs, calling_order]


def partings_of(streams):
    """All partings of a list of streams, functions in the order of their first streams."""
    if not streams:
        yield ()
        return
    for rest in partings_of(streams[1:]):
        yield ((streams[0],), *rest)
        for place in range(len(rest)):
            yield ((streams[0], *rest[place]), *rest[:place], *rest[place + 1:])


def serves(made, name, parting):
    """Whether a parting serves, by the words of [7.6]."""
    if calling_order(made, name, parting)[0] == "ring":
        return False
    inputs = asked_inputs(made, name, parting)
    for output in alone(made, name).main()[2]:
        for function, words in zip(parting, inputs):
            if output in function and not set(words) <= set(needs(made, name, output)):
                return False
    return True


def small_programs(seed, count, most=7):
    """Swift programs of which main has not too many streams."""
    return [made for made in swift_programs(seed, count) + swift_programs(seed + 1, count, True)
            if len(stream_asks(made, made.main()[0])) <= most]


class TestJudged(Case):
    """judge_parting, single_parting, whole_parting"""

    def test_right_ones(self):
        for parting in partings_of(["o", "d", "c", "p", "f"]):
            for turned in [parting, parting[::-1], tuple(function[::-1] for function in parting)]:
                self.exact(judge_parting(CHAIN, "chain", turned), None)

    def test_forms(self):
        for value in [*NOTHINGS, [("o", "d", "c", "p", "f")], list(GOOD), (list(GOOD[0]), *GOOD[1:]),
                      ("o", "d", "c", "p", "f"),
                      (*GOOD, ()), ((), *GOOD), (*GOOD, "q"), (*GOOD, None), ((0, "d"), *GOOD[1:]),
                      (("o", ("d",)), *GOOD[1:]),
                      (("o", None), *GOOD[1:]), (("o", ["d"]),), (("q", "q"), ()), ((True,),), ({"o": 1},), (b"o",),
                      ((b"o",),)]:
            if value not in [(), ((), ())]:
                self.exact(judge_parting(CHAIN, "chain", value), ("form",))
        self.exact(judge_parting(CHAIN, "chain", ((), ())), ("form",))
        self.exact(judge_parting(CHAIN, "chain", ()), ("missing", "o"))

    def test_streams(self):
        for value, stream in [
            ((("o", "a"), *GOOD[1:]), "a"), ((("o", "q"), ("q", "r")), "q"), ((("o", "o"),), "o"),
            ((*GOOD, ("c",)), "c"),
            ((("c",), *GOOD), "c"), ((("o", "d"), ("c", "d", "a")), "d"), ((("b",),), "b"), ((("",),), ""),
            ((("chain",),), "chain"),
            ((*GOOD, ("f", "p")), "f"), ((("o",), ("p", "o", "zz"), ("yy",)), "o"), ((*GOOD, ("O",)), "O"),
        ]:
            self.exact(judge_parting(CHAIN, "chain", value), ("stream", stream))

    def test_missing(self):
        for value, stream in [
            ((("d", "c", "p", "f"),), "o"), ((("f",), ("o",)), "d"), (GOOD[:2], "p"), ((("o", "d", "c", "p"),), "f"),
            (GOOD[1:], "o"),
        ]:
            self.exact(judge_parting(CHAIN, "chain", value), ("missing", stream))

    def test_streams_of_calls(self):
        streams = ("o.a", "o.b", "o.o", "o.p", "o", "p")
        self.exact(judge_parting(PAIRED, "main", (streams,)), None)
        self.exact(judge_parting(PAIRED, "main", (streams[:3], streams[3:])), None)
        self.exact(judge_parting(PAIRED, "low", (("o", "p"),)), None)
        self.exact(judge_parting(PAIRED, "main", (("o", "p"),)), ("missing", "o.a"))
        self.exact(judge_parting(PAIRED, "low", (streams,)), ("stream", "o.a"))
        self.exact(judge_parting(PAIRED, "main", (("s", *streams),)), ("stream", "s"))

    def test_single_and_whole(self):
        self.exact(single_parting(CHAIN, "chain"), (("o",), ("d",), ("c",), ("p",), ("f",)))
        self.exact(whole_parting(CHAIN, "chain"), (("o", "d", "c", "p", "f"),))
        self.exact(single_parting(PAIRED, "main"), (("o.a",), ("o.b",), ("o.o",), ("o.p",), ("o",), ("p",)))
        self.exact(whole_parting(PAIRED, "low"), (("o", "p"),))

    def test_errors(self):
        calls = [(asked_functions,), (asked_inputs,), (calling_order,), (played, (), [("close",)])]
        wrong = [*NOTHINGS, list(GOOD), GOOD[:2], (*GOOD, ("q",)), (*GOOD, ()), [GOOD], (("o", "d", "c", "p", ["f"]),)]
        for call, *rest in calls:
            for parting in wrong:
                self.raised(BadParting, {}, call, CHAIN, "chain", parting, *rest)
            for name in [*NOTHINGS, "o", "main", ["chain"], ("chain",), {"chain": 1}]:
                for parting in [GOOD, None, []]:
                    self.apart(self.raised(UnknownName, {"name": name}, call, CHAIN, name, parting, *rest), name)
        for call, *rest in [(judge_parting, GOOD), (judge_parting, None), (single_parting,), (whole_parting,),
                            (by_outputs,),
                            (fewest,)]:
            for name in [*NOTHINGS, "o", ["chain"], {"chain": []}]:
                self.apart(self.raised(UnknownName, {"name": name}, call, CHAIN, name, *rest), name)


class TestAsked(Case):
    """asked_functions, asked_inputs, calling_order"""

    def test_functions(self):
        self.exact(asked_functions(CHAIN, "chain", GOOD), [[1], [], [1]])
        self.exact(asked_functions(CHAIN, "chain", (("f", "o"), ("p",), ("c",), ("d",))), [[1, 2, 3], [], [], [2]])
        self.exact(asked_functions(CHAIN, "chain", whole_parting(CHAIN, "chain")), [[]])
        self.exact(asked_functions(CHAIN, "chain", (("o", "c"), ("d",), ("p",), ("f",))), [[1], [0], [], [0, 2]])

    def test_inputs_straight_and_through_others(self):
        self.exact(asked_inputs(CHAIN, "chain", GOOD), [["a", "b"], ["b"], ["a", "b"]])
        self.exact(asked_inputs(CHAIN, "chain", (("d",), ("c",), ("o",), ("p",), ("f",))),
                   [["b"], ["b"], ["a", "b"], ["a"], ["a", "b"]])
        self.exact(asked_inputs(CHAIN, "chain", (("d", "p"), ("c",), ("o",), ("f",))),
                   [["a", "b"], ["b"], ["a", "b"], ["a", "b"]])
        self.exact(asked_inputs(CHAIN, "chain", (("o", "c"), ("d",), ("p",), ("f",))),
                   [["a", "b"], ["a", "b"], ["a"], ["a", "b"]])
        self.exact(asked_inputs(PAIRED, "main", (("o", "o.b"), ("p", "o.o"), ("o.p", "o.a"))),
                   [["s", "t"], ["s", "t"], ["s"]])

    def test_calling_orders(self):
        for parting in partings_of(["o", "d", "c", "p", "f"]):
            functions = asked_functions(CHAIN, "chain", parting)
            word, numbers = calling_order(CHAIN, "chain", parting)
            orders = [order for order in itertools.permutations(range(len(parting)))
                      if all(set(functions[k]) <= set(order[:place]) for place, k in enumerate(order))]
            if orders:
                self.assertEqual(word, "order")
                self.assertIn(numbers, orders)
            else:
                self.assertEqual(word, "ring")
                self.assertEqual(len(set(numbers)), len(numbers))
                for one, other in zip(numbers, numbers[1:] + numbers[:1]):
                    self.assertIn(other, functions[one])
        self.exact(calling_order(CHAIN, "chain", GOOD)[0], "order")
        word, numbers = calling_order(CHAIN, "chain", (("p",), ("o", "c"), ("f",), ("d",)))
        self.assertEqual((word, sorted(numbers)), ("ring", [1, 3]))

    def test_by_the_words(self):
        for made in small_programs(91, 40):
            name = made.main()[0]
            asked = stream_asks(made, name)
            sources = [word for word, _ in made.main()[1]]
            chance = random.Random(len(asked))
            for parting in chance.sample(list(partings_of(list(asked))), min(10, len(list(partings_of(list(asked)))))):
                straight = [{other for stream in function for other in asked[stream]} for function in parting]
                graph = [{k for k, other in enumerate(parting) if k != number and set(other) & straight[number]}
                         for number in range(len(parting))]
                self.exact(asked_functions(made, name, parting), [sorted(others) for others in graph])
                inputs = [set(sources) & found for found in straight]
                for _ in parting:
                    inputs = [found.union(*[inputs[k] for k in others]) for found, others in zip(inputs, graph)]
                self.exact(asked_inputs(made, name, parting),
                           [[word for word in sources if word in found] for found in inputs])

    def test_new_lists(self):
        for call in [asked_functions, asked_inputs]:
            self.fresh(call, CHAIN, "chain", GOOD)
        self.untouched(calling_order, CHAIN, "chain", GOOD)


GIVES = [("give", "a", 1), ("give", "b", 1)]
CALLS = [("call", 0), ("call", 1), ("call", 2)]
CLOSE = ("close",)


class TestPlayed(Case):
    """played"""

    def not_yet(self, steps, number, parting=GOOD):
        """Checks the first step that cannot be done."""
        for told in [steps, tuple(steps), [*steps, CLOSE, CLOSE]]:
            self.raised(NotYet, {"number": number}, played, CHAIN, "chain", parting, (), told)

    def test_right_sequences_in_every_order(self):
        want = {("call", 0): [("o", 1)], ("call", 1): [], ("call", 2): [("p", 0)], CLOSE: ()}
        many = 0
        for steps in itertools.permutations(GIVES + CALLS):
            places = {step: place for place, step in enumerate(steps)}
            a, b = [places[step] for step in GIVES]
            one, two, three = [places[step] for step in CALLS]
            steps = [*steps, CLOSE]
            wrong = [place for place, asked in [(one, [a, b, two]), (two, [b]),
                                                (three, [a, b, two])] if place < max(asked)]
            if wrong:
                self.raised(NotYet, {"number": min(wrong)}, played, CHAIN, "chain", GOOD, (), steps)
            else:
                many += 1
                self.exact(played(CHAIN, "chain", GOOD, (), steps), [want.get(step) for step in steps])
                self.exact(played(CHAIN, "chain", GOOD, (), tuple(steps[:4])), [want.get(step) for step in steps[:4]])
        self.assertGreater(many, 3)

    def test_too_early(self):
        self.not_yet([CALLS[1]], 0)
        self.not_yet([GIVES[0], CALLS[1]], 1)
        self.not_yet([*GIVES, CALLS[0]], 2)
        self.not_yet([GIVES[1], CALLS[1], CALLS[0]], 2)
        self.not_yet([GIVES[1], CALLS[1], CALLS[2]], 2)
        self.not_yet([CLOSE], 0)
        self.not_yet([*GIVES, CLOSE], 2)
        self.not_yet([*GIVES, CALLS[1], CALLS[0], CLOSE, CALLS[2]], 4)
        self.not_yet([*GIVES, CLOSE, CALLS[1]], 2)
        inputs = read_program("node n\nin a count(2)\nin b count(2)\nout o\no = op plus a a\n")
        steps = [GIVES[0], ("call", 0), CLOSE]
        self.raised(NotYet, {"number": 2}, played, inputs, "n", (("o",),), (), steps)
        self.exact(played(inputs, "n", (("o",),), (), [*steps[:2], GIVES[1], CLOSE]), [None, [("o", 0)], None, ()])

    def test_inputs_that_are_asked_for_through_others(self):
        # The function of p asks for that of d, and so for b, which p itself does not need.
        parting = (("p", "f"), ("d", "c"), ("o",))
        self.not_yet([GIVES[0], ("call", 0)], 1, parting)
        self.not_yet([GIVES[1], ("call", 1), ("call", 0)], 2, parting)
        self.not_yet([GIVES[1], ("call", 1), ("call", 2)], 2, parting)

    def test_twice(self):
        self.not_yet([GIVES[0], GIVES[0]], 1)
        self.not_yet([GIVES[0], ("give", "a", 0)], 1)
        self.not_yet([*GIVES, CALLS[1], CALLS[1]], 3)
        self.not_yet([*GIVES, CALLS[1], GIVES[1]], 3)
        self.not_yet([*GIVES, CALLS[1], CALLS[0], CALLS[2], CALLS[0]], 5)

    def test_behind_close(self):
        done = [*GIVES, CALLS[1], CALLS[0], CALLS[2], CLOSE]
        for step in [CLOSE, *GIVES, *CALLS]:
            self.not_yet([*done, step], 6)
            self.not_yet([*done, step, step], 6)

    def test_no_function_can_be_called_in_a_ring(self):
        parting = (("o", "c"), ("d",), ("p",), ("f",))
        self.not_yet([*GIVES, ("call", 2), ("call", 0)], 3, parting)
        self.not_yet([*GIVES, ("call", 1)], 2, parting)

    def test_no_steps(self):
        self.exact(played(CHAIN, "chain", GOOD, (), []), [])
        self.exact(played(CHAIN, "chain", GOOD, (), ()), [])

    def test_what_is_absent_and_the_order_of_outputs(self):
        made = Program([HALVES])
        for parting in [(("z", "y", "x"),), (("x", "y", "z"),)]:
            for word, x in [("yes", 3), ("no", None)]:
                steps = [("give", "b", word), ("give", "s", 3), ("call", 0), CLOSE]
                self.exact(played(made, "halves", parting, (), steps), [None, None, [("x", x), ("z", 3)], ()])

    def test_memories(self):
        made = Program([SUM, TWICE])
        parting = (("p.n",), ("p.step", "p.m", "p"))
        self.exact(played(made, "two", parting, (3,), [("call", 0), ("give", "s", 2), ("call", 1), CLOSE]),
                   [[], None, [("p", 1)], (1,)])
        self.exact(played(made, "sum", (("n",), ("m",)), (3,), [("call", 0), ("give", "step", 3), ("call", 1), CLOSE]),
                   [[], None, [("m", 2)], (2,)])

    def test_drawn_programs(self):
        chance = random.Random(95)
        for made in small_programs(95, 40):
            name = made.main()[0]
            outputs = made.main()[2]
            partings = [parting for parting in partings_of(list(stream_asks(made, name)))
                        if calling_order(made, name, parting)[0] == "order"]
            for parting in chance.sample(partings, min(4, len(partings))):
                for state, inputs in drawn_ticks(made, chance, 3):
                    self.plays(made, name, parting, state, inputs, outputs, chance)

    def plays(self, made, name, parting, state, inputs, outputs, chance):
        """Checks a tick played in a drawn order."""
        _, values, after = tick(made, state, inputs)
        told = dict(zip(outputs, values))
        given = dict(zip([word for word, _ in made.main()[1]], inputs))
        functions, asked = asked_functions(made, name, parting), asked_inputs(made, name, parting)
        waiting = [("give", word, value) for word, value in given.items()] + [("call", k) for k in range(len(parting))]
        steps, want, done = [], [], set()
        while waiting:
            able = [step for step in waiting if step[0] == "give"
                    or {("call", k) for k in functions[step[1]]} | {("give", word) for word in asked[step[1]]} <= done]
            step = chance.choice(able)
            waiting.remove(step)
            done.add(step[:2])
            steps.append(step)
            function = parting[step[1]] if step[0] == "call" else ()
            want.append([(o, told[o]) for o in outputs if o in function] if step[0] == "call" else None)
        self.exact(played(made, name, parting, state, [*steps, CLOSE]), [*want, after])

    def test_new_lists(self):
        self.fresh(played, CHAIN, "chain", GOOD, (), [*GIVES, CALLS[1], CALLS[0], CALLS[2], CLOSE])
        self.untouched(played, CHAIN, "chain", GOOD, (), [*GIVES, CALLS[1]])


class TestFiner(Case):
    """finer, joined"""

    def test_finer(self):
        all_partings = list(partings_of(["o", "d", "c", "p", "f"]))
        for one in all_partings[::3]:
            for other in all_partings[::2]:
                want = all(any(set(function) <= set(whole) for whole in other) for function in one)
                self.exact(finer(one, other), want)
                self.exact(finer(one[::-1], tuple(function[::-1] for function in other)), want)
        self.exact(finer(single_parting(CHAIN, "chain"), GOOD), True)
        self.exact(finer(GOOD, single_parting(CHAIN, "chain")), False)
        self.exact(finer(GOOD, GOOD), True)
        self.exact(finer((("o", "d"), ("c", "p", "f")), (("o", "d", "c"), ("p", "f"))), False)

    def test_joined(self):
        parting = (("o",), ("d", "c"), ("p",), ("f",))
        for first, second, want in [
            (0, 1, (("o", "d", "c"), ("p",), ("f",))), (1, 0, (("d", "c", "o"), ("p",), ("f",))),
            (0, 3, (("o", "f"), ("d", "c"), ("p",))), (3, 0, (("d", "c"), ("p",), ("f", "o"))),
            (2, 1, (("o",), ("p", "d", "c"), ("f",))), (1, 3, (("o",), ("d", "c", "f"), ("p",))),
        ]:
            self.exact(joined(parting, first, second), want)
            self.exact(judge_parting(CHAIN, "chain", joined(parting, first, second)), None)
        self.exact(joined(parting[:2], 1, 0), (("d", "c", "o"),))

    def test_wrong_numbers(self):
        parting = (("o",), ("d", "c"), ("p",), ("f",))
        wrong = [*[value for value in NOTHINGS if type(value) is not int], -1, -4, 4, 5, 10 ** 39, "0", (0,), [1],
                 {0: 1}]
        for number in wrong:
            for other in [0, 3, -1, None, 4, True]:
                self.apart(self.raised(BadNumber, {"number": number}, joined, parting, number, other), number)
            for other in range(4):
                self.apart(self.raised(BadNumber, {"number": number}, joined, parting, other, number), number)
        for number in range(4):
            self.raised(BadNumber, {"number": number}, joined, parting, number, number)
        self.raised(BadNumber, {"number": 4}, joined, parting, 4, 4)
        self.raised(BadNumber, {"number": True}, joined, parting, True, 1)
        self.raised(BadNumber, {"number": True}, joined, parting, 1, True)
        self.raised(BadNumber, {"number": False}, joined, parting, 1, False)


class TestServing(Case):
    """by_outputs, fewest"""

    def test_by_outputs(self):
        self.exact(by_outputs(CHAIN, "chain"), (("o", "d", "c"), ("p",), ("f",)))
        self.exact(by_outputs(PAIRED, "main"), (("o.a", "o.p", "p"), ("o.b", "o.o", "o")))
        self.exact(by_outputs(PAIRED, "low"), (("o",), ("p",)))
        made = read_program("""node n
in a count(2)
in b lot(no,yes)
out x o
f = op not b
k = op plus a a
x = when k b yes
g = op not f
o = op plus x m
m = op plus x x
h = op not b
""")
        self.exact(by_outputs(made, "n"), (("f", "g", "h"), ("k", "x"), ("o", "m")))

    def test_streams_that_no_output_asks_for(self):
        made = read_program("""node n
in a count(2)
out o
f = op plus a a
g = op plus f f
o = op plus a a
h = held count(2) 0 o o
""")
        self.exact(by_outputs(made, "n"), (("f", "g", "h"), ("o",)))
        self.exact(len(fewest(made, "n")), 1)

    def test_by_outputs_by_the_words(self):
        for made in swift_programs(97, 50) + swift_programs(98, 50, True):
            name = made.main()[0]
            asked = stream_asks(made, name)
            groups = {}
            for stream in asked:
                by = []
                for output in made.main()[2]:
                    met, waiting = {output}, [output]
                    while waiting:
                        fresh = set(asked.get(waiting.pop(), ())) - met
                        met |= fresh
                        waiting += fresh
                    by.append(stream in met)
                groups.setdefault(tuple(by), []).append(stream)
            found = by_outputs(made, name)
            self.exact(found, tuple(tuple(function) for function in groups.values()))
            self.assertTrue(serves(made, name, found))
            self.assertTrue(serves(made, name, single_parting(made, name)))

    def test_fewest(self):
        for made, many in [(CHAIN, 2), (PAIRED, 2), (Program([HALVES]), 1), (Program([SUM]), 1)]:
            found = fewest(made, made.main()[0])
            self.exact(judge_parting(made, made.main()[0], found), None)
            self.assertTrue(serves(made, made.main()[0], found))
            self.assertEqual(len(found), many)

    def test_fewest_against_all_partings(self):
        sizes = set()
        for made in small_programs(99, 120, 6):
            for node in made.nodes():
                name = node[0]
                try:
                    streams = list(stream_asks(made, name))
                except TickError:
                    continue
                if len(streams) <= 6:
                    found = fewest(made, name)
                    self.exact(judge_parting(made, name, found), None)
                    self.assertTrue(serves(made, name, found))
                    best = min(len(parting) for parting in partings_of(streams) if len(parting) <= len(found)
                               and serves(made, name, parting))
                    self.assertEqual(len(found), best)
                    sizes.add((len(found), len(by_outputs(made, name))))
        self.assertGreater(len(sizes), 3)

    def test_fewer_than_by_outputs(self):
        # o and p need both inputs: one function is enough, though x is asked for by p alone.
        made = read_program("""node n
in a count(2)
in b count(2)
out o p
o = op plus a b
p = op plus x o
x = op plus b b
""")
        self.exact(by_outputs(made, "n"), (("o",), ("p", "x")))
        self.exact(sorted(fewest(made, "n")[0]), ["o", "p", "x"])
        # p and q need different inputs: neither can be with h, which both ask for, nor with f, which asks for both.
        made = read_program("""node n
in a count(2)
in b count(2)
out p q
p = op plus a h
q = op plus b h
h = held count(2) 0 a a
""")
        self.exact(by_outputs(made, "n"), (("p",), ("q",), ("h",)))
        self.assertEqual(len(fewest(made, "n")), 3)
        made = read_program("""node n
in a count(2)
in b count(2)
out p q
p = op plus a h
q = op plus b g
h = held count(2) 0 a a
g = held count(2) 1 b b
f = op plus p q
""")
        self.exact(by_outputs(made, "n"), (("p", "h"), ("q", "g"), ("f",)))
        self.assertEqual(len(fewest(made, "n")), 3)
