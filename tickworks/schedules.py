"""Schedules: plans run step by step."""

from tickworks.arcs import flows
from tickworks.boards import Board
from tickworks.clocks import written_clocks
from tickworks.operations import value_by
from tickworks.planfaults import late_at
from tickworks.rounds import check_all_inputs, first_state
from tickworks.shapes import operands, telling
from tickworks.working import Work
from tickworks.written import written_types


class Running:
    """A plan while it runs: what its channels hold, what each place knows of its tick, and the memories.

    Of a stream that is absent, the value is None.
    """

    def __init__(self, program, plan, inputs):
        self.work = Work(program)
        self.kinds = written_types(program)
        self.clocks = written_clocks(program)
        self.board = Board(plan)
        self.rows = [dict(zip([word for word, _ in program.main()[1]], row)) for row in inputs]
        self.tokens = [[None for _ in range(late)] for _, _, _, late, _ in plan[1]]
        self.seen = [{} for _ in plan[0]]
        self.memories = dict(zip(self.work.moved, first_state(program)))
        self.told = {output: [] for output in program.main()[2]}

    def actions_at(self, place):
        """The tuple of a place's actions."""
        return self.board.plan[0][place]

    def tick_at(self, place):
        """The number of the tick to which the next action of a place belongs."""
        return self.board.done[place] // len(self.actions_at(place))

    def step(self, place):
        """Does the next action of a place, if it can."""
        if not self.board.can_act(place) or self.tick_at(place) >= len(self.rows):
            return
        action = self.actions_at(place)[self.board.next_action(place)]
        if action[0] == "do":
            self.do(place, action[1])
        elif action[0] == "put":
            self.tokens[self.board.put_by(place)].append(self.seen[place][action[1]])
        elif action[0] == "get":
            self.get_at(place, action[1])
        else:
            self.close(place)
        self.board.act(place)

    def do(self, place, stream):
        """Works a stream out."""
        value = self.value_of(place, stream)
        self.seen[place][stream] = value
        if stream in self.told:
            self.told[stream].append(value)

    def value_of(self, place, stream):
        """The value of a stream, from what a place knows."""
        seen = self.seen[place]
        if not all([seen[cond] == word for cond, word in self.clocks[stream]]):
            return None
        right = self.work.rights[stream]
        word = right[0]
        if word == "input":
            return self.rows[self.tick_at(place)][stream]
        if word == "held":
            return self.memories[stream]
        if word == "const":
            return right[2]
        if word == "choose":
            chosen = self.kinds[right[1]][1].index(seen[right[1]])
            return seen[right[2][chosen]]
        if word in ("op", "table"):
            streams = operands(right)
            return value_by(right, [self.kinds[other] for other in streams], [seen[other] for other in streams])
        return seen[telling(right)]

    def get_at(self, place, stream):
        """Gets a token of a stream; if it comes late, it moves memories."""
        number = self.board.got_by(place)
        token = self.tokens[number].pop(0)
        if self.board.plan[1][number][3] == 0:
            self.seen[place][stream] = token
        elif token is not None:
            for held in self.work.helds_moved_by(stream, self.actions_at(place)):
                self.memories[held] = token

    def close(self, place):
        """Moves the memories that are not moved by what comes late, and ends the place's tick."""
        seen = self.seen[place]
        late = late_at(self.board.plan, place)
        for held in self.work.helds_in(self.actions_at(place)):
            right = self.work.rights[held]
            if any([seen[cond] == word for cond, word in right[5]]):
                self.memories[held] = right[2]
            elif right[3] not in late and seen[right[3]] is not None:
                self.memories[held] = seen[right[3]]
        self.seen[place] = {}


def run_plan(program, plan, inputs, schedule):
    """A pair: what the dos of main's outputs have told by a schedule, and how many actions each place has done."""
    check_all_inputs(program, inputs)
    running = Running(program, plan, inputs)
    for place in schedule:
        running.step(place)
    return (running.told, tuple(running.board.done))


def steady(plan, ticks):
    """A schedule by which each place does all its actions of so many ticks without a step in vain, or None."""
    word, found = flows(plan)
    if word == "ring":
        return None
    return [place for place, _ in found] * ticks
