"""Tables: what programs tell, line by line, and what is like in them."""

from tickworks.breadth import walked
from tickworks.lots import input_rows
from tickworks.nodes import Program
from tickworks.pairs import Ticks, are_parted
from tickworks.rounds import first_state
from tickworks.types import is_number, is_tuple
from tickworks.words import is_word

BAD = ("clash", "stuck")


def entry_of(told, numbers):
    """The entry for what a tick tells; numbers has those of the states."""
    if told[0] != "good":
        return (told[0],)
    return ("good", told[1], numbers[told[2]])


def table_of(program, *, states=400):
    """The table of a program: a line for each state that it comes to, an entry for each input row."""
    ticks = Ticks(program)
    rows = input_rows(program)

    def leave(state, row):
        told = ticks.tick_at(state, row)
        return (None, told[2]) if told[0] == "good" else (None, None)

    found, _ = walked(first_state(program), rows, states, leave)
    numbers = {state: number for number, state in enumerate(found)}
    return tuple([tuple([entry_of(ticks.tick_at(state, row), numbers) for row in rows]) for state in found])


def is_told(value):
    """Whether any value is a word, a number from 0 to 5, or a pair of such, however deep."""
    if isinstance(value, tuple):
        return len(value) == 2 and all([is_told(part) for part in value])
    return is_word(value) or (is_number(value) and 0 <= value <= 5)


def is_entry(value, many):
    """Whether any value is an entry of a table of so many lines."""
    if is_tuple(value, 1, 1):
        return value[0] in BAD
    if not is_tuple(value, 3, 3) or value[0] != "good" or not isinstance(value[1], tuple):
        return False
    if not all([output is None or is_told(output) for output in value[1]]):
        return False
    return is_number(value[2]) and 0 <= value[2] < many


def is_line(value, many):
    """Whether any value is a line of a table of so many lines."""
    return isinstance(value, tuple) and len(value) > 0 and all([is_entry(entry, many) for entry in value])


def is_table(value):
    """Whether any value is a table."""
    if not isinstance(value, tuple) or len(value) == 0:
        return False
    if not all([is_line(line, len(value)) for line in value]):
        return False
    if not all([len(line) == len(value[0]) for line in value]):
        return False
    lengths = {len(entry[1]): True for line in value for entry in line if entry[0] == "good"}
    return len(lengths) <= 1


def run_table(table, numbers):
    """The list of the entries that are met from line 0 on, up to the first one that is not good."""
    told = []
    line = 0
    for number in numbers:
        entry = table[line][number]
        told.append(entry)
        if entry[0] != "good":
            break
        line = entry[2]
    return told


def kinds_in(keys):
    """The list of the numbers that strings get, equal ones the same, by where each stands first."""
    found = {}
    for key in keys:
        found.setdefault(key, len(found))
    return [found[key] for key in keys]


def line_kinds(table):
    """The list of numbers for the lines, the same ones for those that are like."""
    # Outputs may be too deep for keys, so what tells of them is their text.
    told = [[repr(entry[:2]) for entry in line] for line in table]
    kinds = kinds_in([" ".join(texts) for texts in told])
    while True:
        keys = []
        for line, kind in zip(table, kinds):
            behind = [kinds[entry[2]] if entry[0] == "good" else -1 for entry in line]
            keys.append(repr((kind, behind)))
        finer = kinds_in(keys)
        if finer == kinds:
            return kinds
        kinds = finer


def least_table(table):
    """The table with like lines made one, those that nothing meets left out, numbered in breadth."""
    kinds = line_kinds(table)
    firsts = {}
    for number, kind in enumerate(kinds):
        firsts.setdefault(kind, number)

    def leave(number, place):
        entry = table[number][place]
        return (None, firsts[kinds[entry[2]]]) if entry[0] == "good" else (None, None)

    places = list(range(len(table[0])))
    met, _ = walked(0, places, len(table), leave)
    numbers = {kinds[line]: number for number, line in enumerate(met)}
    return tuple([
        tuple([entry if entry[0] != "good" else entry[:2] + (numbers[kinds[entry[2]]],) for entry in table[line]])
        for line in met
    ])


def tables_parted(one, other):
    """None if the first lines of two tables are like, else the first shortest run that parts them."""
    def leave(pair, place):
        entry, more = one[pair[0]][place], other[pair[1]][place]
        if are_parted(entry, more):
            return (True, None)
        return (None, (entry[2], more[2])) if entry[0] == "good" else (None, None)

    places = list(range(len(one[0])))
    found, end = walked((0, 0), places, len(one) * len(other), leave)
    return None if end is None else found


def column(table, place):
    """The tuple of what a table has at a place of each output, or of each number, line by line."""
    return tuple([entry[2] if place is None else entry[1][place] for line in table for entry in line])


def as_program(table, inputs, outputs):
    """The program of one node that runs as a table does."""
    args = ("now",) + tuple([word for word, _ in inputs])
    many = ("count", len(table))
    equations = [
        (("now",), ("held", many, 0, "next", args[1])),
        (("next",), ("table", many, column(table, None), args)),
    ]
    for place, (word, kind) in enumerate(outputs):
        equations.append(((word,), ("table", kind, column(table, place), args)))
    return Program([("main", inputs, tuple([word for word, _ in outputs]), tuple(equations))])
