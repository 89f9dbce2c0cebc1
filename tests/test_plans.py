"""Plans: what streams want, what fits, and plans that are made: [8.1] to [8.3], [8.7]."""

import random

from cases import Case, NOTHINGS
from drawn import swift_programs
from planwords import drawn_plan, drawn_where, fault_by_words, moving, wanted
from samples import ALL, FOUR, KEEPS, NESTED, RARELY, SUM, TWICE
from tickworks.errors import UnknownName
from tickworks.nodes import Program
from tickworks.nodetexts import read_program
from tickworks.plans import judge_plan, moved_by, planned, wants, with_room
from tickworks.written import helds_of, written_out

ADDS = Program([SUM])
DO = {stream: ("do", stream) for stream in ["step", "n", "m"]}
CLOSE = ("close",)
ALONE = (((DO["step"], DO["n"], DO["m"], CLOSE),), ())
PLAN = (((DO["step"], ("get", "n", 1), DO["m"], ("put", "m", 1), CLOSE),
         (DO["n"], ("put", "n", 0), ("get", "m", 0), CLOSE)), (("n", 1, 0, 0, 1), ("m", 0, 1, 0, 1)))
LATE = (((DO["step"], ("get", "n", 1), DO["m"], ("put", "m", 1), CLOSE),
         (("get", "m", 0), DO["n"], ("put", "n", 0), CLOSE)), (("n", 1, 0, 0, 1), ("m", 0, 1, 1, 2)))

# Helds with two agains around them.
BEGUN = read_program("""node inner
in a lot(no,yes)
in b lot(no,yes)
out h
h = held lot(no,yes) no a b
node outer
in c lot(no,yes)
in d lot(no,yes)
out h k
h = call inner c d : d yes
k = call inner d d : c no
node main
in e lot(no,yes)
in f lot(no,yes)
out h k
h k = call outer e f : f no
""")
# Helds with one again.
OWN = read_program("""node own
in a lot(no,yes)
out h
h = held lot(no,yes) no s a
s = op not h
node main
in e lot(no,yes)
out h
h = call own e : t yes
t = op not e
""")
KEPT = read_program("""node keep
in a lot(no,yes)
in s lot(no,yes)
out h
h = held lot(no,yes) no s a
node main
in e lot(no,yes)
in t lot(no,yes)
out h
h = call keep e t : t yes
""")


class TestWants(Case):
    """wants, moved_by"""

    def test_each_right_side(self):
        made = read_program("""node main
in s count(2)
in b lot(no,yes)
out z
k = const count(2) 1 s
h = held count(2) 1 z s
p = op plus s s
t = table count(2) 0 1 1 0 : s b
x = when s b yes
y = when p b no
z = choose b y x
""")
        for stream, want in {
            "s": (), "b": (), "k": (), "h": (), "p": ("s",), "t": ("s", "b"), "x": ("b", "s"), "y": ("b", "p"),
            "z": ("b", "y", "x"),
        }.items():
            self.exact(wants(made, stream), want)
        self.exact(moved_by(made, "h"), ("z",))

    def test_conds_of_clocks_outermost_first(self):
        made = read_program("""node main
in s lot(no,yes)
in b lot(no,yes)
out e
e = op not b
x = when s e yes
y = when x x no
k = const count(2) 1 y
h = held count(2) 1 k y
d = op plus h k
""")
        self.exact([wants(made, stream) for stream in ["x", "y", "k", "h", "d"]],
                   [("e", "s"), ("e", "x"), ("e", "x"), ("e", "x"), ("e", "x", "h", "k")])

    def test_calls(self):
        made = Program(RARELY)
        # The clock of the call is led back to y, of which w, a, z are whens.
        self.exact(wants(made, "n.up"), ("y", "w"))
        self.exact(wants(made, "n.off"), ("y", "a"))
        self.exact(wants(made, "n.n"), ("y",))
        self.exact(wants(made, "n.m"), ("y", "n.n", "n.up"))
        self.exact(wants(made, "n"), ("y", "n.n"))
        self.exact(moved_by(made, "n.n"), ("n.m", "z"))
        two = Program([SUM, TWICE])
        self.exact([wants(two, stream) for stream in ["p.step", "p.n", "p.m", "p"]],
                   [("s",), (), ("p.n", "p.step"), ("p.m",)])

    def test_agains_around_a_held(self):
        made = BEGUN
        self.exact([moved_by(made, held) for held in helds_of(made)], [
            ("h.h.a", "f", "h.d"), ("h.k.a", "f", "h.c")])
        self.exact(moved_by(OWN, "h.h"), ("h.s", "t"))
        nested = Program(NESTED)
        for held in helds_of(nested):
            self.exact(moved_by(nested, held), tuple(moving(nested, held)))
        keeps = Program(KEEPS)
        self.exact([moved_by(keeps, "h.h"), wants(keeps, "h.h")], [("h.w", "y"), ("y",)])

    def test_streams_that_stand_twice(self):
        made = Program([("main", (("s", FOUR),), ("m",), ((("m",), ("op", "plus", ("s", "s"))),))])
        self.exact(wants(made, "m"), ("s",))
        main = ("main", (("s", FOUR), ("b", ("lot", ("no", "yes")))), ("h",), (
            (("h",), ("call", "keeper", ("s", "b"), ("b", "no"))),))
        keeper = ("keeper", (("f", FOUR), ("b", ("lot", ("no", "yes")))), ("h",), (
            (("h",), ("held", ("lot", ("no", "yes")), "no", "b", "b")),))
        self.exact(moved_by(Program([keeper, main]), "h.h"), ("h.b", "b"))

    def test_by_the_words(self):
        for made in swift_programs(340, 60) + swift_programs(341, 60, True) + [Program(ALL), BEGUN, OWN]:
            for stream, _ in written_out(made):
                self.exact(wants(made, stream), tuple(wanted(made, stream)))
            for held in helds_of(made):
                self.exact(moved_by(made, held), tuple(moving(made, held)))

    def test_unknown_names(self):
        for name in [*NOTHINGS, "q", "sum", "step.n", ["m"], ("m",), {"m": 1}]:
            self.apart(self.raised(UnknownName, {"name": name}, wants, ADDS, name), name)
            self.apart(self.raised(UnknownName, {"name": name}, moved_by, ADDS, name), name)
        for name in ["step", "m"]:
            self.raised(UnknownName, {"name": name}, moved_by, ADDS, name)


def with_actions(plan, place, actions):
    """A plan with other actions at a place."""
    return (plan[0][:place] + (tuple(actions),) + plan[0][place + 1:], plan[1])


def with_channels(plan, *channels):
    """A plan with other channels."""
    return (plan[0], channels)


class TestForms(Case):
    """judge_plan: what is no plan"""

    def judged(self, value, want=("form",), made=ADDS):
        """Checks what is told of a value."""
        self.exact(self.untouched(judge_plan, made, value), want)

    def test_no_pairs(self):
        for value in [*NOTHINGS, list(PLAN), PLAN[:1], (*PLAN, ()), (list(PLAN[0]), PLAN[1]), (PLAN[0], list(PLAN[1])),
                      ((), ()), (PLAN[0], None), (None, PLAN[1]), {"places": PLAN[0]}, [PLAN], PLAN[0], PLAN[1],
                      (PLAN[0] + ((), (), ()), PLAN[1]), (PLAN[1], PLAN[0])]:
            self.judged(value)
        self.judged((PLAN[0] + ((), ()), PLAN[1]), None)

    def test_actions(self):
        for action in [*NOTHINGS, "do", ("do",), ("do", "step", 1), ("do", "q"), ("do", 0), ("do", ["m"]), ["do", "m"],
                       ("put", "m"), ("put", "m", 0), ("put", "m", 2), ("put", "m", -1), ("put", "m", True),
                       ("put", "m", None), ("put", "m", "1"), ("put", "m", 1, 1), ("get", "q", 1), ("get", "m", 0),
                       ("get", "m", (1,)), ("close", 0), ("close", None), ("open",), (CLOSE,), (("do",), "m"),
                       (True, "m"), ("do", None), ("step", "do"), (["do"], "m"), ({"do": 1}, "m"), ("do", True)]:
            for place in [0, 1]:
                other = action if action not in [("put", "m", 0), ("get", "m", 0)] else ("put", "m", place)
                self.judged(with_actions(PLAN, place, (*PLAN[0][place], other)))
                self.judged(with_actions(PLAN, place, (other, *PLAN[0][place])))
        self.judged(with_actions(PLAN, 1, list(PLAN[0][1])), None)
        self.judged((PLAN[0][:1] + (list(PLAN[0][1]),), PLAN[1]))
        self.judged((PLAN[0][:1] + (None,), PLAN[1]))
        self.judged((PLAN[0][:1] + ("close",), PLAN[1]))

    def test_channels(self):
        for channel in [*NOTHINGS, ("m", 0, 1, 0), ("m", 0, 1, 0, 1, 1), ["m", 0, 1, 0, 1], ("q", 0, 1, 0, 1),
                        ("m", 0, 0, 0, 1),
                        ("m", 0, 2, 0, 1), ("m", 2, 1, 0, 1), ("m", 2, 0, 0, 1), ("m", -1, 1, 0, 1),
                        ("m", 1, -1, 0, 1), ("m", 0, True, 0, 1), ("m", False, 1, 0, 1),
                        ("m", 0, 1, True, 1), ("m", 0, 1, False, 1), ("m", 0, 1, 2, 1), ("m", 0, 1, -1, 1),
                        ("m", 0, 1, 0, 0), ("m", 0, 1, 0, 5), ("m", 0, 1, 0, True), ("m", 0, 1, 0, None),
                        ("m", 0, 1, None, 1), ("m", (0,), 1, 0, 1), (("m",), 0, 1, 0, 1), (["m"], 0, 1, 0, 1),
                        ("m", [0], 1, 0, 1), ("m", 0, 1, 0, 10 ** 39)]:
            self.judged(with_channels(PLAN, PLAN[1][0], channel))
            self.judged(with_channels(PLAN, channel, *PLAN[1]))

    def test_two_channels_to_one_place(self):
        for late in [0, 1]:
            self.judged(with_channels(PLAN, *PLAN[1], ("m", 0, 1, late, 3)))
        more = (PLAN[0] + ((),), PLAN[1] + (("m", 2, 1, 0, 1),))
        self.judged(more)
        self.judged((PLAN[0] + ((),), PLAN[1] + (("m", 0, 2, 0, 1),)), ("channel", 2))
        self.judged((PLAN[0], PLAN[1] * 20000))

    def test_places_that_do_nothing(self):
        self.judged(ALONE, None)
        self.judged(((ALONE[0][0], (), (), ()), ()), None)
        self.judged((((), ALONE[0][0]), ()), None)
        self.judged((((), ()), ()), ("done", "step"))


class TestJudged(Case):
    """judge_plan: what fits"""

    def judged(self, value, want, made=ADDS):
        """Checks what is told of a value."""
        self.exact(self.untouched(judge_plan, made, value), want)
        self.exact(fault_by_words(made, value), want)

    def test_plans_that_fit(self):
        for plan in [ALONE, PLAN, LATE, with_channels(LATE, LATE[1][0], ("m", 0, 1, 1, 1)),
                     with_channels(PLAN, PLAN[1][1], PLAN[1][0])]:
            self.judged(plan, None)

    def test_done(self):
        self.judged(with_actions(PLAN, 0, PLAN[0][0][1:]), ("done", "step"))
        self.judged(with_actions(PLAN, 0, (DO["n"], *PLAN[0][0])), ("done", "n"))
        self.judged(with_actions(PLAN, 0, (DO["m"], *PLAN[0][0])), ("done", "m"))
        self.judged(with_actions(PLAN, 1, PLAN[0][1][1:]), ("done", "n"))
        self.judged(with_actions(with_actions(PLAN, 1, ()), 0, ()), ("done", "step"))

    def test_channels(self):
        self.judged(with_channels(PLAN, ("n", 1, 0, 0, 1), ("m", 1, 0, 0, 1)), ("channel", 1))
        self.judged(with_channels(PLAN, ("n", 0, 1, 0, 1), PLAN[1][1]), ("channel", 0))
        self.judged(with_channels(PLAN, *PLAN[1], ("step", 0, 1, 0, 1)), ("channel", 2))
        self.judged(with_channels(PLAN, ("step", 0, 1, 0, 1), *PLAN[1]), ("channel", 0))
        n, put, got, _ = PLAN[0][1]
        self.judged(with_actions(PLAN, 1, (put, n, got, CLOSE)), ("channel", 0))
        self.judged(with_actions(PLAN, 1, (n, got, CLOSE)), ("channel", 0))
        self.judged(with_actions(PLAN, 1, (n, put, put, got, CLOSE)), ("channel", 0))
        self.judged(with_actions(PLAN, 1, (n, put, CLOSE)), ("channel", 1))
        self.judged(with_actions(PLAN, 1, (n, put, got, got, CLOSE)), ("channel", 1))
        # A put of what is done elsewhere stands behind no do of its stream there.
        step, n, m, close = ALONE[0][0]
        relay = ((step, ("put", "step", 1), close),
                 (("get", "step", 0), ("put", "step", 2), close),
                 (("get", "step", 1), n, m, close))
        self.judged((relay, (("step", 0, 1, 0, 1), ("step", 1, 2, 0, 1))), ("channel", 1))

    def test_loose_ones(self):
        self.judged(with_channels(PLAN, PLAN[1][0]), ("loose", 0, 3))
        self.judged(with_channels(PLAN, PLAN[1][1]), ("loose", 0, 1))
        self.judged(with_channels(PLAN), ("loose", 0, 1))
        self.judged(with_actions(PLAN, 1, (("put", "m", 0), *PLAN[0][1])), ("loose", 1, 0))
        self.judged(with_actions(PLAN, 1, (*PLAN[0][1][:3], ("get", "step", 0), CLOSE)), ("loose", 1, 3))
        three = ((*PLAN[0], ()), PLAN[1])
        self.judged(with_actions(three, 2, (("get", "m", 0), CLOSE)), ("loose", 2, 0))
        self.judged(with_actions(three, 0, (*PLAN[0][0][:4], ("put", "m", 2), CLOSE)), ("loose", 0, 4))
        # Not the channel that goes the other way, and not the one to another place.
        self.judged(with_actions(PLAN, 1, (*PLAN[0][1][:3], ("put", "m", 0), CLOSE)), ("loose", 1, 3))

    def test_closes(self):
        for place in [0, 1]:
            actions = PLAN[0][place]
            self.judged(with_actions(PLAN, place, actions[:-1]), ("close", place, len(actions) - 1))
            self.judged(with_actions(PLAN, place, (*actions, CLOSE)), ("close", place, len(actions) - 1))
            self.judged(with_actions(PLAN, place, (CLOSE, *actions)), ("close", place, 0))
            self.judged(with_actions(PLAN, place, (CLOSE, *actions[:-1])), ("close", place, 0))
            self.judged(with_actions(PLAN, place, (actions[0], CLOSE, *actions[1:-1])), ("close", place, 1))
            self.judged(with_actions(PLAN, place, (actions[0], CLOSE, CLOSE, *actions[1:])), ("close", place, 1))
        none = (tuple(actions[:-1] for actions in PLAN[0]), PLAN[1])
        self.judged(none, ("close", 0, 4))
        self.judged(((*PLAN[0], (CLOSE,)), PLAN[1]), None)
        self.judged(((*PLAN[0], (CLOSE, CLOSE)), PLAN[1]), ("close", 2, 0))
        self.judged(((*PLAN[0], (), (CLOSE, CLOSE)), PLAN[1]), ("close", 3, 0))

    def test_wants(self):
        step, got, m, put, _ = PLAN[0][0]
        self.judged(with_actions(PLAN, 0, (got, m, put, step, CLOSE)), ("wants", 0, 1, "step"))
        self.judged(with_actions(PLAN, 0, (step, m, put, got, CLOSE)), ("wants", 0, 1, "n"))
        self.judged(with_actions(PLAN, 0, (m, step, put, got, CLOSE)), ("wants", 0, 0, "n"))
        n, put_n, _, _ = PLAN[0][1]
        self.judged((PLAN[0][:1] + ((n, put_n, CLOSE),), PLAN[1][:1]), ("loose", 0, 3))
        places = ((step, got, m, CLOSE), (n, put_n, CLOSE))
        self.judged((places, PLAN[1][:1]), ("wants", 1, 2, "m"))
        # What comes late is not there for a do.
        late = with_channels(PLAN, ("n", 1, 0, 1, 1), PLAN[1][1])
        self.judged(late, ("wants", 0, 2, "n"))

    def test_closes_want_conds_of_agains(self):
        rights = dict(written_out(KEPT))
        self.assertEqual(rights["h.h"][5], (("t", "yes"),))
        other = [("do", stream) for stream in rights if stream not in ("h.h", "h")]
        own = (("get", "h.s", 0), ("do", "h.h"), ("do", "h"))
        channel = ("h.s", 0, 1, 0, 1)
        self.judged(((tuple(other) + (("put", "h.s", 1), CLOSE), own + (CLOSE,)), (channel,)),
                    ("wants", 1, 3, "t"), KEPT)
        more = own + (("get", "t", 0), CLOSE)
        full = ((tuple(other) + (("put", "h.s", 1), ("put", "t", 1), CLOSE), more), (channel, ("t", 0, 1, 0, 1)))
        self.judged(full, None, KEPT)
        # Late, the own stream is not wanted, but the cond is, and such a held can have no late channel.
        late = (full[0], (("h.s", 0, 1, 1, 1), full[1][1]))
        self.judged(late, ("late", 0), KEPT)
        front = tuple(other) + (("put", "h.s", 1), CLOSE)
        self.judged(((front, own + (CLOSE,)), (("h.s", 0, 1, 1, 1),)), ("wants", 1, 3, "t"), KEPT)

    def test_a_cond_that_comes_late(self):
        made = read_program("""node keep
in a lot(no,yes)
in s lot(no,yes)
out h
h = held lot(no,yes) no s a
node main
in e lot(no,yes)
in t lot(no,yes)
out h g
h = call keep e t : t yes
g = held lot(no,yes) no t e
""")
        late = ("t", 0, 1, 1, 1)
        rest = [("do", stream) for stream in ["e", "t", "h.a", "h.s"]]
        # g is moved by t, which comes late; the close does not want it for g, but for h.h it does.
        front = (*rest, ("put", "t", 1), ("put", "h.s", 1), CLOSE)
        back = (("get", "t", 0), ("get", "h.s", 0), ("do", "g"), ("do", "h.h"), ("do", "h"), CLOSE)
        self.judged(((front, back), (late, ("h.s", 0, 1, 0, 1))), ("wants", 1, 5, "t"), made)
        apart = (("get", "t", 0), ("do", "g"), CLOSE)
        alone = ((*rest, ("put", "t", 1), ("do", "h.h"), ("do", "h"), CLOSE), apart)
        self.judged((alone, (late,)), None, made)
        self.judged(((front, back), (late[:3] + (0, 1), ("h.s", 0, 1, 0, 1))), None, made)

    def test_late_ones(self):
        step, n, m, close = ALONE[0][0]
        place, other = LATE[0]
        # No held of the stream is done at its end.
        far = ((step, n, m, ("put", "m", 1), close), (("get", "m", 0), close))
        self.judged((far, (("m", 0, 1, 1, 1),)), ("late", 0))
        # The held is done ahead of the get.
        got, do, put, _ = other
        self.judged(with_actions(LATE, 1, (do, got, put, CLOSE)), ("late", 1))
        self.judged(with_actions(LATE, 1, (got, do, put, CLOSE)), None)
        self.judged(with_channels(LATE, LATE[1][1], LATE[1][0]), None)
        self.judged((with_actions(LATE, 1, (do, got, put, CLOSE))[0], LATE[1][::-1]), ("late", 0))

    def test_one_of_several_helds_behind_a_late_channel(self):
        made = read_program("""node main
in a count(2)
out g
m = op plus a a
g = held count(2) 1 m a
h = held count(2) 0 m a
""")
        front = (("do", "a"), ("do", "m"), ("put", "m", 1), CLOSE)
        channel = (("m", 0, 1, 1, 4),)
        got, g, h = ("get", "m", 0), ("do", "g"), ("do", "h")
        self.judged(((front, (got, g, h, CLOSE)), channel), None, made)
        self.judged(((front, (g, got, h, CLOSE)), channel), ("late", 0), made)
        self.judged(((front, (h, got, g, CLOSE)), channel), ("late", 0), made)
        self.judged((((g, *front), (got, h, CLOSE)), channel), None, made)

    def test_several_faults(self):
        step, got, m, put, _ = PLAN[0][0]
        self.judged(((PLAN[0][0][1:], (CLOSE,)), PLAN[1]), ("done", "step"))
        self.judged(((PLAN[0][0], (DO["n"], CLOSE, CLOSE)), PLAN[1]), ("channel", 0))
        self.judged(((PLAN[0][0][:-1], (DO["n"], CLOSE)), ()), ("loose", 0, 1))
        self.judged((((m, step, got, put, CLOSE), (CLOSE, DO["n"], ("put", "n", 0), ("get", "m", 0))), PLAN[1]),
                    ("close", 1, 0))
        self.judged((((m, step, got, put, CLOSE), (DO["n"], ("put", "n", 0), ("get", "m", 0), CLOSE)),
                     (PLAN[1][0], ("m", 0, 1, 1, 1))), ("wants", 0, 0, "n"))

    def bent(self, plan, chance):
        """A plan with one thing changed."""
        places, channels = [list(actions) for actions in plan[0]], list(plan[1])
        p = chance.randrange(len(places))
        way = chance.randrange(9)
        if way == 0 and places[p]:
            places[p].pop(chance.randrange(len(places[p])))
        elif way == 1 and places[p]:
            places[p].insert(chance.randrange(len(places[p])), chance.choice(places[p]))
        elif way == 2 and places[p]:
            places[p].insert(chance.randrange(len(places[p])), places[p].pop(chance.randrange(len(places[p]))))
        elif way == 3 and places[p]:
            chance.choice(places).append(places[p].pop(chance.randrange(len(places[p]))))
        elif way == 4 and channels:
            channels.pop(chance.randrange(len(channels)))
        elif way == 5 and channels:
            channels.append(chance.choice(channels))
        elif way == 6 and channels:
            k = chance.randrange(len(channels))
            stream, start, end, late, room = channels[k]
            channels[k] = chance.choice([(stream, end, start, late, room), (stream, start, end, 1 - late, room)])
        elif way == 7 and channels:
            k = chance.randrange(len(channels))
            channels.insert(chance.randrange(len(channels)), channels.pop(k))
        elif places[p]:
            places[p].remove(chance.choice(places[p]))
            places[p].append(CLOSE)
        return tuple(map(tuple, places)), tuple(channels)

    def test_bent_plans(self):
        chance = random.Random(342)
        faults = {}
        programs = swift_programs(343, 60) + [ADDS, BEGUN, KEPT, OWN] * 5
        for made in programs:
            plan = drawn_plan(made, chance)
            self.judged(plan, None, made)
            for _ in range(25):
                bent = plan
                for _ in range(chance.randint(1, 2)):
                    bent = self.bent(bent, chance)
                want = judge_plan(made, bent)
                if want != ("form",):
                    self.judged(bent, fault_by_words(made, bent), made)
                else:
                    self.assertFalse(self.has_form(made, bent))
                word = want[0] if want else None
                faults[word] = faults.get(word, 0) + 1
        for word in ["form", "done", "channel", "loose", "close", "wants", "late", None]:
            self.assertGreater(faults[word], 3, word)

    def has_form(self, made, plan):
        """Whether a bent plan still has the form: bending brings no more than what has none to itself."""
        places, channels = plan
        ends = [(stream, end) for stream, _, end, _, _ in channels]
        own = all(action[2] != p for p, actions in enumerate(places) for action in actions if len(action) == 3)
        return own and len(set(ends)) == len(ends)


class TestPlanned(Case):
    """planned, with_room"""

    def test_one_place(self):
        self.exact(planned(ADDS, [0, 0, 0]), ALONE)
        self.exact(planned(ADDS, (0, 0, 0)), ALONE)
        self.exact(planned(ADDS, [1, 1, 1]), (((), ALONE[0][0]), ()))

    def test_action_by_action(self):
        self.exact(planned(ADDS, [0, 1, 0]), PLAN)
        self.exact(planned(ADDS, [2, 0, 2]), (
            ((DO["n"], ("put", "n", 2), ("get", "m", 2), CLOSE), (),
             (DO["step"], ("get", "n", 0), DO["m"], ("put", "m", 0), CLOSE)),
            (("n", 0, 2, 0, 1), ("m", 2, 0, 0, 1))))
        self.exact(planned(ADDS, [0, 1, 2]), (
            ((DO["step"], ("put", "step", 2), CLOSE), (DO["n"], ("put", "n", 2), ("get", "m", 2), CLOSE),
             (("get", "n", 1), ("get", "step", 0), DO["m"], ("put", "m", 1), CLOSE)),
            (("step", 0, 2, 0, 1), ("n", 1, 2, 0, 1), ("m", 2, 1, 0, 1))))

    def test_the_sequence_of_streams(self):
        made = read_program("""node main
in a count(2)
out c
c = op plus b a
b = op plus d a
d = op plus a a
e = held count(2) 0 c a
f = held count(2) 1 b a
""")
        # a, then d, as c and b want what is not done yet; then b, then c, e, f.
        self.exact(planned(made, [0, 0, 0, 1, 1, 2]), ((
            (("do", "a"), ("put", "a", 1), ("get", "d", 1), ("do", "b"), ("put", "b", 2), ("do", "c"), ("put", "c", 1),
             CLOSE),
            (("get", "a", 0), ("do", "d"), ("put", "d", 0), ("do", "e"), ("get", "c", 0), CLOSE),
            (("do", "f"), ("get", "b", 0), CLOSE)),
            (("a", 0, 1, 0, 1), ("c", 0, 1, 0, 1), ("b", 0, 2, 0, 1), ("d", 1, 0, 0, 1))))

    def by_words(self, made, where):
        """The plan of [8.7], step by step."""
        streams = [stream for stream, _ in written_out(made)]
        home = dict(zip(streams, where))
        places = [[] for _ in range(max(where) + 1)]
        taken, got = [], []
        while len(taken) < len(streams):
            stream = next(s for s in streams if s not in taken and set(wanted(made, s)) <= set(taken))
            taken.append(stream)
            for other in wanted(made, stream):
                if home[other] != home[stream] and (other, home[stream]) not in got:
                    got.append((other, home[stream]))
                    places[home[stream]].append(("get", other, home[other]))
            places[home[stream]].append(("do", stream))
        for p, actions in enumerate(places):
            for held in helds_of(made):
                for other in moving(made, held) if home[held] == p else []:
                    if home[other] != p and (other, p) not in got:
                        got.append((other, p))
                        actions.append(("get", other, home[other]))
            if actions:
                actions.append(CLOSE)
        for stream in streams:
            actions = places[home[stream]]
            at = actions.index(("do", stream)) + 1
            actions[at:at] = [("put", stream, p) for p in range(len(places)) if (stream, p) in got]
        channels = [(s, home[s], p, 0, 1) for s in streams for p in range(len(places)) if (s, p) in got]
        return tuple(map(tuple, places)), tuple(channels)

    def test_by_the_words(self):
        chance = random.Random(344)
        for made in swift_programs(345, 80) + swift_programs(346, 40, True) + [BEGUN, KEPT, OWN, Program(NESTED)]:
            for _ in range(3):
                where = drawn_where(made, chance)
                got = self.untouched(planned, made, where)
                self.exact(got, self.by_words(made, where))
                self.exact(judge_plan(made, got), None)

    def test_rooms(self):
        self.exact(self.untouched(with_room, PLAN, 1, 3), (PLAN[0], (PLAN[1][0], ("m", 0, 1, 0, 3))))
        self.exact(with_room(LATE, 0, 4), (LATE[0], (("n", 1, 0, 0, 4), LATE[1][1])))
        self.exact(with_room(LATE, 1, 1), (LATE[0], (LATE[1][0], ("m", 0, 1, 1, 1))))
        self.exact(with_room(PLAN, 0, 1), PLAN)
