"""Plants by the words of part 10: a model that keeps lists, and copies them for attempts; and deeds that are drawn."""

import copy
import random

from drawn import swift_programs
from lotwords import alike_by_words, rows_of
from test_alike import fits, renamed
from tickworks.branches import come_of, elders, last_common, line_to, story
from tickworks.errors import (
    BadDeed, BadName, BadProgram, BadValue, NameMissing, NoPartner, NothingDone, NotSwift, OtherFace, Parted, TickError,
    TooMany, UnknownName,
)
from tickworks.nodes import Program
from tickworks.orders import is_swift
from tickworks.plant import Plant
from tickworks.rounds import first_state
from tickworks.runs import tick
from tickworks.types import place_of, values_of
from tickworks.written import helds_of, written_types


def led_by_words(program, state, other):
    """The state of another program to which a state is led, by [10.2]."""
    kinds, more = written_types(program), written_types(other)
    memories = dict(zip(helds_of(program), state))
    return tuple(memories[held] if held in memories and kinds[held] == more[held] else value
                 for held, value in zip(helds_of(other), first_state(other)))


class Model:
    """What a plant is to tell."""

    def __init__(self, nodes):
        program = Program(nodes)
        self.moments = [(program, first_state(program), None)]
        self.lines = []
        self.trails = {"main": ([0], 0)}
        self.stand = "main"

    def present(self):
        trail, place = self.trails[self.stand]
        return trail[place]

    def do(self, deed):
        """Does a deed; raises its error."""
        if not isinstance(deed, tuple) or not deed or not isinstance(deed[0], str):
            raise BadDeed()
        if {"tick": 2, "swap": 2, "take": 2, "renew": 1}.get(deed[0]) != len(deed):
            raise BadDeed()
        program, state, _ = self.moments[self.present()]
        moment = getattr(self, deed[0])(program, state, *deed[1:])
        if len(self.moments) >= 200:
            raise TooMany()
        number = len(self.moments)
        self.lines.append((self.present(), deed if deed[0] != "take" else ("take", tuple(deed[1]))))
        self.moments.append(moment)
        trail, place = self.trails[self.stand]
        self.trails[self.stand] = (trail[:place + 1] + [number], place + 1)
        return number

    def tick(self, program, state, inputs):
        kinds = [kind for _, kind in program.main()[1]]
        if not isinstance(inputs, tuple) or len(inputs) != len(kinds):
            raise BadValue(())
        for k, (kind, value) in enumerate(zip(kinds, inputs)):
            try:
                place_of(kind, value)
            except BadValue as bad:
                raise BadValue((k, *bad.path)) from None
        _, outputs, behind = tick(program, state, inputs)
        return program, behind, outputs

    def swap(self, program, state, node):
        try:
            Program([node])
        except BadProgram:
            raise
        except (TickError, NameMissing):
            pass
        names = [other[0] for other in program.nodes()]
        if node[0] not in names:
            raise UnknownName(node[0])
        nodes = program.nodes()
        nodes[names.index(node[0])] = node
        other = self.swift(Program(nodes), program)
        return other, led_by_words(program, state, other), None

    def swift(self, other, program):
        if not is_swift(other):
            raise NotSwift()
        if not fits(program, other):
            raise OtherFace()
        return other

    def take(self, program, state, nodes):
        other = self.swift(Program(nodes), program)
        word, found = alike_by_words(program, other)
        if word == "parts":
            raise Parted(found)
        partners = [more for one, more in found if one == state]
        if not partners:
            raise NoPartner()
        return other, partners[0], None

    def renew(self, program, state):
        return program, first_state(program), None

    def step(self, places):
        trail, place = self.trails[self.stand]
        if not 0 <= place + places < len(trail):
            raise NothingDone()
        self.trails[self.stand] = (trail, place + places)
        return self.present()

    def undo(self):
        return self.step(-1)

    def redo(self):
        return self.step(1)

    def branch(self, name):
        word = isinstance(name, str) and 1 <= len(name) <= 8 and all("a" <= letter <= "z" for letter in name)
        if not word or name in self.trails:
            raise BadName(name)
        if len(self.trails) >= 6:
            raise TooMany()
        self.trails[name] = ([self.present()], 0)

    def go(self, name):
        if not isinstance(name, str) or name not in self.trails:
            raise UnknownName(name)
        self.stand = name
        return self.present()

    def kept(self):
        """All that the model tells, to be put back."""
        return copy.copy(self.moments), copy.copy(self.lines), copy.copy(self.trails), self.stand

    def put_back(self, kept):
        self.moments, self.lines, self.trails, self.stand = kept

    def elders(self, number):
        found = [number]
        while found[0]:
            found.insert(0, self.lines[found[0] - 1][0])
        return found


def told_by_model(model):
    """All that a plant tells, by the model."""
    moments = [(program.nodes(), state, told) for program, state, told in model.moments]
    names = list(model.trails)
    return [model.present(), model.stand, names, [(list(model.trails[name][0]), model.trails[name][1]) for name in names],
            list(model.lines), len(model.moments), moments, moments[model.present()]]


def told_by_plant(plant):
    """All that a plant tells."""
    def shown(moment):
        return (moment[0].nodes(), *moment[1:])
    return [plant.present(), plant.here(), plant.branches(),
            [(plant.trail(name), plant.mark(name)) for name in plant.branches()], plant.log(), len(plant),
            [shown(plant.moment(number)) for number in range(len(plant))], shown(plant.now())]


def ways_by_model(model, number):
    """What tickworks.branches tells of a moment, by the model."""
    found = model.elders(number)
    come = [other for other in range(len(model.moments)) if number in model.elders(other)]
    deeds = [model.lines[other - 1][1] for other in found if other]
    told = [model.moments[other][2] for other in found if other and model.lines[other - 1][1][0] == "tick"]
    return [found, come, deeds, told]


def ways_by_plant(plant, number):
    """What tickworks.branches tells of a moment."""
    return [elders(plant, number), come_of(plant, number), line_to(plant, number), story(plant, number)]


def common_by_model(model, one, other):
    """The greatest elder in all of two moments, by the model."""
    return max(set(model.elders(one)) & set(model.elders(other)))


def common_by_plant(plant, one, other):
    """The greatest elder in all of two moments."""
    return last_common(plant, one, other)


def with_other_values(node, chance):
    """A node in which one held or const or table has another value."""
    name, inputs, outputs, equations = node
    places = [k for k, (_, right) in enumerate(equations) if right[0] in ("held", "const", "table")]
    if not places:
        return node
    k = chance.choice(places)
    names, right = equations[k]
    kind = right[1]
    values = list(values_of(kind))
    if right[0] == "table":
        results = list(right[2])
        results[chance.randrange(len(results))] = chance.choice(values)
        right = (*right[:2], tuple(results), right[3])
    else:
        right = (*right[:2], chance.choice(values), *right[3:])
    return (name, inputs, outputs, (*equations[:k], (names, right), *equations[k + 1:]))


def drawn_deed(program, chance, others):
    """A deed, right or wrong."""
    way = chance.random()
    if way < 0.5:
        row = chance.choice(rows_of(program))
        return ("tick", row if chance.random() < 0.95 else chance.choice([row[:-1], (None, *row[1:]), list(row)]))
    if way < 0.7:
        node = chance.choice(program.nodes())
        return ("swap", with_other_values(node, chance) if chance.random() < 0.9 else chance.choice([None, ("x", *node[1:])]))
    if way < 0.85:
        nodes = renamed(program, chance).nodes() if chance.random() < 0.7 else program.nodes()
        if chance.random() < 0.2:
            nodes[-1] = with_other_values(nodes[-1], chance)
        return ("take", chance.choice([nodes, tuple(nodes)]))
    if way < 0.95:
        return ("renew",)
    return chance.choice([("take", chance.choice(others).nodes()), ("renew", 1), None, ["renew"], ("undo",), ("take", [])])


def drawn_move(model, chance, others):
    """The name of a call that changes a plant, and its arguments."""
    way = chance.random()
    if way < 0.6:
        return "do", (drawn_deed(model.moments[model.present()][0], chance, others),)
    if way < 0.75:
        return "undo", ()
    if way < 0.85:
        return "redo", ()
    if way < 0.91:
        return "branch", (chance.choice(["main", "a", "b", "c", "d", "e", "f", "g", "", "Up", None, ["a"]]),)
    return "go", (chance.choice([*model.trails, "zz", None, ("main",)]),)


def plants_to_draw(seed, count):
    """Programs with helds for drawn plants."""
    return [made for made in swift_programs(seed, 3 * count) if helds_of(made) and len(rows_of(made)) < 13][:count]


def result_of(call, *args):
    """What a call returns, or its error with all attributes."""
    try:
        return ("returned", call(*args))
    except (TickError, NameMissing) as error:
        return ("raised", type(error).__name__, vars(error))


def grown_plant(made, seed, moves):
    """A plant and its model behind drawn moves."""
    chance = random.Random(seed)
    others = swift_programs(seed, 3)
    plant, model = Plant(made.nodes()), Model(made.nodes())
    for _ in range(moves):
        name, args = drawn_move(model, chance, others)
        result_of(getattr(plant, name), *args)
        result_of(getattr(model, name), *args)
    return plant, model
