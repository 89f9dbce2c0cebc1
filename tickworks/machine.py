"""The machine: one tick by rows, and ticks one behind the other."""

from tickworks.operations import value_by
from tickworks.rounds import check_all_inputs, check_tick, first_state
from tickworks.rows import read_cells
from tickworks.types import value_fault


class Machine:
    """The cells, what was told, and the memories, while the rows of one tick are gone through."""

    def __init__(self, program, state, inputs):
        rows = program.written_rows()
        self.kinds = {stream: kind for stream, _, kind in rows}
        self.own = {stream: right[2] for stream, right, _ in rows if right[0] == "held"}
        self.memories = dict(zip(self.own, state))
        self.sources = {word: value for (word, _), value in zip(program.main()[1], inputs)}
        self.cells = {}
        self.told = {}

    def go(self, rows, path):
        """Goes through rows that stand at this path; the path of the first fault, or None."""
        for place, row in enumerate(rows):
            here = path + (place,)
            fault = here
            if all([cell in self.cells for cell in read_cells(row)]):
                fault = self.step(row, here)
            if fault is not None:
                return fault
        return None

    def step(self, row, path):
        """Goes through a row that reads no empty cell; the path of the first fault, or None."""
        if row[0] == "if":
            return self.branch(row, path)
        if row[0] == "put":
            return None if self.put(row) else path
        if row[0] in ("tell", "store"):
            return None if self.handed_on(row) else path
        if row[0] == "renew":
            for held in row[1]:
                self.memories[held] = self.own[held]
        else:
            self.cells[row[1]] = self.found(row)
        return None

    def found(self, row):
        """What a get, const, load or copy writes."""
        if row[0] == "get":
            return self.sources[row[2]]
        if row[0] == "const":
            return row[3]
        if row[0] == "load":
            return self.memories[row[2]]
        return self.cells[row[2]]

    def put(self, row):
        """Does a put; whether its operands have values of their types."""
        _, cell, what, cells = row
        kinds = what[-1]
        values = [self.cells[operand] for operand in cells]
        if not all([value_fault(kind, value) is None for kind, value in zip(kinds, values)]):
            return False
        self.cells[cell] = value_by(what, kinds, values)
        return True

    def handed_on(self, row):
        """Does a tell or a store; whether it may be done."""
        word, name, cell = row
        value = self.cells[cell]
        if value_fault(self.kinds[name], value) is not None or (word == "tell" and name in self.told):
            return False
        if word == "tell":
            self.told[name] = value
        else:
            self.memories[name] = value
        return True

    def branch(self, row, path):
        """Goes through the branch whose word the if's cell has; the path of the first fault, or None."""
        for place, (word, rows) in enumerate(row[2]):
            if word == self.cells[row[1]]:
                return self.go(rows, path + (place,))
        return None


def tick_by_rows(program, rows, state, inputs):
    """What rows tell of a tick in what is a state, for what are inputs."""
    machine = Machine(program, state, inputs)
    fault = machine.go(rows, ())
    if fault is not None:
        return ("fault", fault)
    outputs = tuple([machine.told.get(output) for output in program.main()[2]])
    return ("good", outputs, tuple(machine.memories.values()))


def run_rows(program, rows, state, inputs):
    """What rows tell of a tick: outputs and the next state, or the path of a fault."""
    check_tick(program, state, inputs)
    return tick_by_rows(program, rows, state, inputs)


def run_ticks(program, rows, inputs):
    """The list of what the ticks return, from the first state on, up to the first fault."""
    check_all_inputs(program, inputs)
    state = first_state(program)
    told = []
    for row in inputs:
        last = tick_by_rows(program, rows, state, row)
        told.append(last)
        if last[0] == "fault":
            break
        state = last[2]
    return told
