"""Rows made shorter, by the words of [6.5] alone: all ways through rows, one step at a time."""

from changes import edited, paths_in
from words import Words

WRITING = ("get", "const", "load", "copy", "put")


def row_at(rows, path):
    """The row at a path, and those behind it among its own."""
    while len(path) > 1:
        rows = rows[path[0]][2][path[1]][1]
        path = path[2:]
    return rows[path[0]:]


def reads(row):
    """The cells that a row reads."""
    return {"copy": row[2:3], "if": row[1:2], "tell": row[2:3], "store": row[2:3]}.get(
        row[0], row[3] if row[0] == "put" else ())


def ways(rows):
    """All ways through rows, as lists of rows, an if standing for its reading alone."""
    if not rows:
        yield []
        return
    first, rest = rows[0], rows[1:]
    found = [()] + [inner for _, inner in first[2]] if first[0] == "if" else [()]
    for inner in found:
        for way in ways(inner + rest):
            yield [first] + way


def following(rows, path):
    """What follows behind the row at a path."""
    found = ()
    while len(path) > 1:
        found = rows[path[0] + 1:] + found
        rows = rows[path[0]][2][path[1]][1]
        path = path[2:]
    return rows[path[0] + 1:] + found


def wanted(rows, path):
    """The set of the cells that are wanted behind the row at a path."""
    found = set()
    for way in ways(following(rows, path)):
        written = set()
        for row in way:
            found |= set(reads(row)) - written
            if row[0] in WRITING:
                written.add(row[1])
    return found


def without_row(rows, at):
    return rows[:at] + rows[at + 1:]


def without_branch(number):
    def change(rows, at):
        row = rows[at]
        return rows[:at] + (row[:2] + (row[2][:number] + row[2][number + 1:],),) + rows[at + 1:]
    return change


def step_to_bare(made, rows):
    """Rows one step barer, or None."""
    for path in paths_in(rows):
        row = row_at(rows, path)[0]
        if row[0] in WRITING and row[1] not in wanted(rows, path):
            return edited(rows, path, without_row)
        if row[0] == "if":
            for number, (_, inner) in enumerate(row[2]):
                if not inner:
                    return edited(rows, path, without_branch(number))
    for path in paths_in(rows):
        row = row_at(rows, path)[0]
        if row[0] == "if" and not row[2]:
            found = edited(rows, path, without_row)
            if Words(made).fault(found) is None:
                return found
    return None


def as_one(rows, at):
    """Rows with two ifs side by side as one."""
    one, other = rows[at], rows[at + 1]
    second = dict(other[2])
    branches = [(word, inner + second.pop(word, ())) for word, inner in one[2]]
    branches += [(word, inner) for word, inner in other[2] if word in second]
    return rows[:at] + (("if", one[1], tuple(branches)),) + rows[at + 2:]


def step_to_merge(made, rows):
    """Rows with one pair of ifs merged, or None."""
    for path in paths_in(rows):
        pair = row_at(rows, path)[:2]
        if len(pair) == 2 and pair[0][0] == pair[1][0] == "if" and pair[0][1] == pair[1][1]:
            inner = [row_at(pair[:1], path) for path in paths_in(pair[:1])]
            if not any(row[0][0] in WRITING and row[0][1] == pair[0][1] for row in inner):
                found = edited(rows, path, as_one)
                if Words(made).fault(found) is None:
                    return found
    return None


def to_the_end(step, made, rows):
    """Rows behind all steps."""
    found = rows
    while found is not None:
        rows, found = found, step(made, found)
    return rows


def renamed(rows, numbers):
    """Rows with other numbers for their cells."""
    found = []
    for row in rows:
        word = row[0]
        if word == "if":
            row = (word, numbers[row[1]], tuple((name, renamed(inner, numbers)) for name, inner in row[2]))
        elif word == "put":
            row = (word, numbers[row[1]], row[2], tuple(numbers[cell] for cell in row[3]))
        elif word == "copy":
            row = (word, numbers[row[1]], numbers[row[2]])
        elif word in ("tell", "store"):
            row = (word, row[1], numbers[row[2]])
        elif word != "renew":
            row = (word, numbers[row[1]], *row[2:])
        found.append(row)
    return tuple(found)


def fewer_cells(made, rows):
    """Rows with the numbers for their cells that [6.5] tells."""
    all_rows = [(path, row_at(rows, path)[0]) for path in paths_in(rows)]
    cells = {cell for _, row in all_rows for cell in [*reads(row), *(row[1:2] if row[0] in WRITING else ())]}
    written = list(dict.fromkeys(row[1] for _, row in all_rows if row[0] in WRITING))
    way = {frozenset((row[1], cell)) for path, row in all_rows if row[0] in WRITING for cell in wanted(rows, path)}
    numbers = {}
    for cell in written:
        taken = {numbers[other] for other in numbers if frozenset((cell, other)) in way}
        numbers[cell] = min(set(range(len(taken) + 1)) - taken)
    behind = max(numbers.values(), default=-1) + 1
    for place, cell in enumerate(sorted(cells - set(written))):
        numbers[cell] = behind + place
    found = renamed(rows, numbers)
    return rows if Words(made).fault(found) is not None else found
