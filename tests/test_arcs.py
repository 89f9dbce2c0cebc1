"""Arcs, flows, groups, stops, fills: [8.4] and [8.6]."""

import random

from cases import Case, NOTHINGS
from drawn import swift_programs
from planwords import Player, arcs_by_words, drawn_plan, fault_by_words, most_tokens, shuffled
from samples import SUM
from test_plans import BEGUN, KEPT, LATE, PLAN
from tickworks.arcs import arcs, fills, flows, groups, judge_fill, judge_flow, stops
from tickworks.nodes import Program
from tickworks.nodetexts import read_program
from tickworks.plans import judge_plan, planned, with_room
from tickworks.written import helds_of, written_out

ADDS = Program([SUM])
LOCKED = (LATE[0], (LATE[1][0], ("m", 0, 1, 0, 1)))
# Two pairs of places: one that goes on, and one that stands still; and a place that does nothing.
FOURFOLD = read_program("""node main
in a count(2)
in b count(2)
out c
c = op plus a a
d = op plus b b
e = op plus d d
f = op plus e e
""")
APART = (
    ((("do", "a"), ("put", "a", 1), ("close",)), (("get", "a", 0), ("do", "c"), ("close",)),
     (("do", "b"), ("do", "d"), ("get", "e", 3), ("do", "f"), ("put", "d", 3), ("close",)),
     (("get", "d", 2), ("do", "e"), ("put", "e", 2), ("close",))),
    (("a", 0, 1, 0, 2), ("d", 2, 3, 0, 1), ("e", 3, 2, 0, 1)))


def programs():
    """Programs of which many have helds."""
    drawn = swift_programs(350, 60) + swift_programs(351, 20, True)
    return [made for made in drawn if helds_of(made)] + [ADDS, BEGUN, KEPT] * 4


def drawn_plans(seed, most=3):
    """The list of the pairs of a program and a plan that fits it."""
    chance = random.Random(seed)
    return [(made, drawn_plan(made, chance, most)) for made in programs() for _ in range(3)]


def actions_in(plan):
    """All actions of a plan."""
    return [(p, k) for p, actions in enumerate(plan[0]) for k in range(len(actions))]


def played_out(plan, chance, steps):
    """The counts of all places behind steps of drawn places."""
    player = Player(plan)
    for _ in range(steps):
        free = [p for p in range(len(plan[0])) if player.can(p)]
        if not free:
            break
        player.act(chance.choice(free))
    return player


class TestArcs(Case):
    """arcs"""

    def test_arcs(self):
        self.exact(arcs(PLAN), (
            ((0, 0), (0, 1), 0), ((0, 1), (0, 2), 0), ((0, 2), (0, 3), 0), ((0, 3), (0, 4), 0), ((0, 4), (0, 0), 1),
            ((1, 0), (1, 1), 0), ((1, 1), (1, 2), 0), ((1, 2), (1, 3), 0), ((1, 3), (1, 0), 1),
            ((1, 1), (0, 1), 0), ((0, 1), (1, 1), 1), ((0, 3), (1, 2), 0), ((1, 2), (0, 3), 1)))
        self.exact(arcs(LATE)[-2:], (((0, 3), (1, 0), 1), ((1, 0), (0, 3), 1)))
        self.exact(arcs(with_room(LATE, 1, 1))[-2:], (((0, 3), (1, 0), 1), ((1, 0), (0, 3), 0)))
        self.exact(arcs(with_room(PLAN, 0, 4))[-4:-2], (((1, 1), (0, 1), 0), ((0, 1), (1, 1), 4)))
        self.exact(arcs((((("close",),), ()), ())), (((0, 0), (0, 0), 1),))
        self.exact(arcs((((),), ())), ())

    def test_by_the_words(self):
        for _, plan in drawn_plans(352):
            self.exact(self.untouched(arcs, plan), tuple(arcs_by_words(plan)))


class TestFlows(Case):
    """flows, judge_flow"""

    def is_right(self, plan, value):
        """Whether a value is told rightly, by the words of [8.4]."""
        word, found = value
        empty = [(source, action) for source, action, tokens in arcs_by_words(plan) if tokens == 0]
        if word == "goes":
            if sorted(found) != sorted(actions_in(plan)):
                return False
            return all(found.index(source) < found.index(action) for source, action in empty)
        if not found or len(set(found)) != len(found):
            return False
        return all(pair in empty for pair in zip(found, found[1:] + found[:1]))

    def test_sequences_and_rings(self):
        words = {"goes": 0, "ring": 0}
        for _, plan in drawn_plans(353):
            got = self.untouched(flows, plan)
            self.assertIsInstance(got, tuple)
            self.assertIsInstance(got[1], tuple)
            self.assertTrue(self.is_right(plan, got))
            self.exact(judge_flow(plan, got), None)
            words[got[0]] += 1
        self.assertGreater(min(words.values()), 10)

    def test_judged_by_the_words(self):
        chance = random.Random(354)
        many = {True: 0, False: 0}
        for _, plan in drawn_plans(355):
            word, found = flows(plan)
            for _ in range(12):
                bent = list(found)
                way = chance.randrange(6)
                if way == 0:
                    bent.pop(chance.randrange(len(bent)))
                elif way == 1:
                    bent.insert(chance.randrange(len(bent)), chance.choice(actions_in(plan)))
                elif way == 2:
                    k = chance.randrange(len(bent))
                    bent.insert(max(0, k + chance.choice([-1, 1])), bent.pop(k))
                elif way == 3:
                    bent = bent[1:] + bent[:1]
                elif way == 4:
                    word = {"goes": "ring", "ring": "goes"}[word]
                else:
                    bent = shuffled(bent, chance)
                right = self.is_right(plan, (word, tuple(bent)))
                self.exact(judge_flow(plan, (word, tuple(bent))), None if right else ("form",))
                many[right] += 1
        self.assertGreater(min(many.values()), 20)

    def test_rings_turned(self):
        ring = flows(LOCKED)[1]
        for k in range(len(ring)):
            self.exact(judge_flow(LOCKED, ("ring", ring[k:] + ring[:k])), None)
        self.exact(judge_flow(LOCKED, ("ring", ring[::-1])), ("form",))
        self.exact(judge_flow(LOCKED, ("ring", ring + ring)), ("form",))
        self.exact(judge_flow(LOCKED, ("goes", ring)), ("form",))

    def test_what_is_neither(self):
        word, found = flows(PLAN)
        for value in [*NOTHINGS, [word, found], (word, list(found)), (word, found, 1), (word,), (found, word),
                      ("go", found), (None, found), (True, found), (["goes"], found), (word, found[:-1]),
                      (word, found + found[:1]), (word, [*found]), (word, tuple(map(list, found))), (word, ()),
                      ("ring", ()), (word, None), (word, {}), (word, ("a",) * 9), (word, ((0, 9),)),
                      (word, ((0, 0, 0),)), ("ring", ((0, 0),)), ("ring", ((0, True), (0, 0))), {word: found}, found,
                      ("ring", ([0, 0],)), ("ring", ((0, [0]),)), ("ring", (("a", 0),)), ("ring", ((-1, 0),))]:
            self.exact(self.untouched(judge_flow, PLAN, value), ("form",))
        self.exact(judge_flow(PLAN, (word, found)), None)
        flagged = tuple((bool(p) if p < 2 else p, k) for p, k in found)
        self.assertEqual(flagged, found)
        self.exact(judge_flow(PLAN, (word, flagged)), ("form",))
        self.exact(judge_flow(PLAN, (word, tuple((p, True if k == 1 else k) for p, k in found))), ("form",))

    def test_no_actions(self):
        self.exact([flows((((),), ())), judge_flow((((),), ()), ("goes", ()))], [("goes", ()), None])
        self.exact(judge_flow((((),), ()), ("ring", ())), ("form",))


class TestGroups(Case):
    """groups, stops"""

    def test_groups(self):
        self.exact([groups(PLAN), groups(APART), groups(planned(ADDS, [3, 3, 3]))],
                   [((0, 1),), ((0, 1), (2, 3)), ((0,), (1,), (2,), (3,))])
        crossed = (((), (), (), ()), (("a", 3, 0, 0, 1), ("b", 2, 1, 0, 1)))
        places = [(("put", "a", 0),), (("put", "b", 1),), (("get", "a", 3),), (("get", "b", 2),)]
        crossed = ((places[2], places[3], places[1], places[0]), crossed[1])
        self.exact(groups(crossed), ((0, 3), (1, 2)))
        chained = (crossed[0], (("a", 3, 0, 0, 1), ("b", 2, 1, 0, 1), ("c", 0, 1, 0, 1)))
        self.exact(groups(chained), ((0, 1, 2, 3),))
        self.exact(groups((((),), ())), ((0,),))

    def test_groups_by_the_words(self):
        for _, plan in drawn_plans(356):
            names = list(range(len(plan[0])))
            for _ in names:
                for _, start, end, _, _ in plan[1]:
                    names[start] = names[end] = min(names[start], names[end])
            want = [tuple(p for p, other in enumerate(names) if other == name) for name in sorted(set(names))]
            self.exact(self.untouched(groups, plan), tuple(want))

    def test_stops(self):
        self.exact(judge_plan(FOURFOLD, APART), None)
        self.exact(stops(APART), (None, None, 2, 0))
        self.exact(stops(PLAN), (None, None))
        self.exact(stops(LOCKED), (1, 0))
        self.exact(stops(planned(ADDS, [2, 2, 2])), (0, 0, None))
        self.exact(stops((((),), ())), (0,))
        self.exact(stops((((("close",),), ()), ())), (None, 0))

    def test_a_late_channel_that_helps_for_a_while(self):
        # The get of n comes a tick late, so that both do some actions more until they stand still.
        made = ADDS
        late = (LATE[0], (LATE[1][0], ("m", 0, 1, 1, 1)))
        self.exact(fault_by_words(made, late), None)
        self.exact(stops(late), (None, None))
        early = (((("do", "step"), ("get", "n", 1), ("do", "m"), ("put", "m", 1), ("close",)),
                  (("get", "m", 0), ("do", "n"), ("put", "n", 0), ("close",))), (("n", 1, 0, 0, 1), ("m", 0, 1, 1, 1)))
        self.exact(early, late)

    def test_stops_by_schedules(self):
        chance = random.Random(357)
        still = 0
        for _, plan in drawn_plans(358):
            told = self.untouched(stops, plan)
            for _ in range(3):
                player = played_out(plan, chance, 2000)
                for p, count in enumerate(told):
                    if count is None:
                        self.assertGreater(player.counts[p], len(plan[0][p]))
                    else:
                        self.assertEqual(player.counts[p], count)
                        still += count > 0
            for group in groups(plan):
                self.assertEqual(len({told[p] is None for p in group}), 1)
            ring = flows(plan)[0] == "ring"
            self.assertEqual(ring, any(told[p] is not None and plan[0][p] for p in range(len(told))))
        self.assertGreater(still, 20)


class TestFills(Case):
    """fills, judge_fill"""

    def test_the_most(self):
        for room in [1, 2, 3, 4]:
            for number in [0, 1]:
                self.exact(fills(with_room(PLAN, number, room), number)[0], 1)
        far = planned(FOURFOLD, [0, 0, 1, 0, 0, 0])
        for room in [1, 2, 3, 4]:
            plan = with_room(far, 0, room)
            most, ring, schedule = fills(plan, 0)
            self.exact(most, room)
            self.exact(ring[:2], ((0, plan[0][0].index(("put", "a", 1))), (1, 0)))
            self.exact(judge_fill(plan, 0, (most, ring, schedule)), None)

    def test_by_a_search(self):
        many, full = 0, 0
        for _, plan in drawn_plans(359, 2):
            for number, (_, start, _, _, room) in enumerate(plan[1][:4]):
                if stops(plan)[start] is None:
                    got = self.untouched(fills, plan, number)
                    self.assertIsInstance(got, tuple)
                    self.assertIsInstance(got[1], tuple)
                    self.assertIsInstance(got[2], tuple)
                    self.exact(judge_fill(plan, number, got), None)
                    self.right_fill(plan, number, got)
                    most = most_tokens(plan, number, 2500)
                    if most is not None:
                        many += 1
                        full += most == room
                        self.exact(got[0], most)
        self.assertGreater(many, 150)
        self.assertGreater(many - full, 20)

    def right_fill(self, plan, number, value):
        """Checks a fill by the words of [8.6]."""
        most, ring, schedule = value
        tokens = {(source, action): many for source, action, many in arcs_by_words(plan)}
        stream, start, end = plan[1][number][:3]
        self.assertEqual(ring[:2], ((start, plan[0][start].index(("put", stream, end))),
                                    (end, plan[0][end].index(("get", stream, start)))))
        self.assertEqual(sum(tokens[pair] for pair in zip(ring, ring[1:] + ring[:1])), most)
        player = Player(plan)
        for p in schedule:
            self.assertTrue(player.can(p))
            player.act(p)
        self.assertEqual(len(player.queues[plan[1][number][:3]]), most)

    def test_a_group_beside_one_that_stands_still(self):
        most, ring, schedule = fills(APART, 0)
        self.exact([most, judge_fill(APART, 0, (most, ring, schedule))], [2, None])
        self.exact(judge_fill(APART, 0, (most, ring, (2, 2, *schedule))), None)
        self.exact(judge_fill(APART, 0, (most, ring, (2, 2, 2, *schedule))), ("step", 2))
        self.exact(judge_fill(APART, 0, (most, ring, (3, *schedule))), ("step", 0))

    def judged(self, value, want, plan=LATE, number=1):
        """Checks what is told of a value."""
        self.exact(self.untouched(judge_fill, plan, number, value), want)

    def test_forms(self):
        most, ring, schedule = fills(LATE, 1)
        self.judged((most, ring, schedule), None)
        for value in [*NOTHINGS, [most, ring, schedule], (most, ring), (most, ring, schedule, 1),
                      (None, ring, schedule), (True, ring, schedule), ("1", ring, schedule), ((1,), ring, schedule),
                      (most, list(ring), schedule), (most, ring, list(schedule)), (most, (), schedule),
                      (most, ring[:1], schedule), (most, ring[1:], schedule), (most, ring[::-1], schedule),
                      (most, (*ring, (0, 9)), schedule), (most, (*ring, (2, 0)), schedule), (most, (*ring, None), ()),
                      (most, (*ring, [0, 0]), schedule), (most, (*ring, (0, True)), schedule), (most, None, schedule),
                      (most, (*ring, (False, 0)), schedule), (most, (*ring, (0, [])), ()),
                      (most, ring, (*schedule, 2)), (most, ring, (*schedule, -1)), (most, ring, (*schedule, True)),
                      (most, ring, (None,)), (most, ring, ("0",)), (most, ring, ([0],)), (most, ring, None),
                      {"most": most}]:
            self.judged(value, ("form",))

    def test_rings(self):
        put, got = (0, 3), (1, 0)
        self.judged((1, (put, got, (0, 0)), ()), ("ring", 1))
        self.judged((1, (put, got, (1, 1)), ()), ("ring", 2))
        self.judged((1, (put, got, (1, 2), (0, 1)), ()), ("ring", 1))
        self.judged((1, (put, got, (1, 1), (0, 3)), ()), ("ring", 2))
        self.judged((1, (put, got, put, put), ()), ("ring", 2))
        self.judged((1, (put, got, (1, 1), (1, 2), (0, 1), (0, 2)), ()), None)
        # Some actions twice: once more around is a ring as well, but its tokens are more.
        twice = (put, got, (1, 1), (1, 2), (0, 1), (0, 2)) * 2
        self.judged((1, twice, ()), ("sum",))
        self.judged((2, twice, ()), ("holds",))
        self.judged((2, twice, (1,)), ("holds",))

    def test_sums(self):
        ring = ((0, 3), (1, 0), (1, 1), (1, 2), (0, 1), (0, 2))
        for most in [0, 2, 3, -1, 10 ** 39]:
            self.judged((most, ring, ()), ("sum",))
        self.judged((1, ((0, 3), (1, 0)), ()), ("sum",))
        self.judged((2, ((0, 3), (1, 0)), (0, 1)), ("holds",))

    def test_steps(self):
        ring = ((0, 3), (1, 0), (1, 1), (1, 2), (0, 1), (0, 2))
        self.judged((1, ring, (0, 0)), ("step", 1))
        self.judged((1, ring, (0, 1, 1, 1, 0, 0)), ("holds",))
        self.judged((1, ring, (0, 1, 1, 1, 0, 0, 0)), None)
        self.judged((1, ring, (1,)), ("holds",))
        self.judged((1, ring, (1, 1, 1, 1, 1)), ("step", 4))
        three = ((*LATE[0], ()), LATE[1])
        self.judged((1, ring, (2,)), ("step", 0), three)
        self.judged((1, ring, (0, 2)), ("step", 1), three)

    def test_several_faults(self):
        put, got = (0, 3), (1, 0)
        self.judged((5, (put, got, put, put), (0, 0, 0)), ("ring", 2))
        self.judged((5, (put, got), (0, 0, 0)), ("sum",))
        self.judged((2, (put, got), (0, 0, 0)), ("step", 1))
        self.judged((5, (got, put), (0, 0, 9)), ("form",))

    def test_long_values(self):
        ring = ((0, 3), (1, 0), (1, 1), (1, 2), (0, 1), (0, 2))
        self.judged((3000, ring * 3000, (1, 1, 1, 1)), ("holds",))

    def test_rooms_late_and_not(self):
        chance = random.Random(360)
        counts = {}
        for made in [ADDS, FOURFOLD] + swift_programs(361, 12):
            for _ in range(4):
                plan = drawn_plan(made, chance, 2)
                for number, (_, start, _, late, _) in enumerate(plan[1][:3]):
                    for room in [1, 2, 3, 4]:
                        other = with_room(plan, number, room)
                        if stops(other)[start] is None:
                            got = fills(other, number)
                            self.right_fill(other, number, got)
                            self.assertLessEqual(got[0], room)
                            counts[(late, got[0])] = counts.get((late, got[0]), 0) + 1
        self.assertEqual(sorted({most for _, most in counts}), [1, 2, 3, 4])
        self.assertEqual(len(written_out(ADDS)), 3)
