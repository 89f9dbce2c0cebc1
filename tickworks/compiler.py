"""The compiler: rows for a swift program, and rows made shorter."""

from tickworks.facts import first_place, rows_fault
from tickworks.ground import Ground
from tickworks.jobs import jobs_of
from tickworks.makings import rows_from
from tickworks.rows import cells_in, written_cell
from tickworks.wanting import bit_of, needed, writes_in


def compiled(program):
    """Rows that are let by, for a swift program."""
    ground = Ground(program)
    return rows_from(ground, jobs_of(ground), first_place(ground))


def paths_in(rows, path):
    """The list of the paths of all rows that stand at this path, ascending."""
    found = []
    for place, row in enumerate(rows):
        here = path + (place,)
        found.append(here)
        if row[0] == "if":
            for number, (_, inner) in enumerate(row[2]):
                found.extend(paths_in(inner, here + (number,)))
    return found


def rows_at(rows, path):
    """The rows from the one on to which a path leads, up to the end of those that it stands among."""
    for place, branch in zip(path[0::2], path[1::2]):
        rows = rows[place][2][branch][1]
    return rows[path[-1]:]


def spliced(rows, path, put):
    """Rows in which those from a path on, up to the end of those that it stands among, are exchanged."""
    if len(path) == 1:
        return rows[:path[0]] + put
    place, branch = path[:2]
    word, cell, branches = rows[place]
    name, inner = branches[branch]
    changed = (name, spliced(inner, path[2:], put))
    row = (word, cell, branches[:branch] + (changed,) + branches[branch + 1:])
    return rows[:place] + (row,) + rows[place + 1:]


def do_write(rows, cell):
    """Whether one of the rows, or of those in their branches, writes a cell."""
    for row in rows:
        if written_cell(row) == cell:
            return True
        if row[0] == "if" and any([do_write(inner, cell) for _, inner in row[2]]):
            return True
    return False


def changed_once(ground, rows, change):
    """Rows that are let by, changed at the first place at which they may be, or None.

    change is handed rows from a place on, up to the end of those that they stand among; it returns
    what they are changed to, or None.
    """
    for path in paths_in(rows, ()):
        put = change(rows_at(rows, path))
        if put is not None:
            found = spliced(rows, path, put)
            if rows_fault(ground, found) is None:
                return found
    return None


def one_if(first, second):
    """Two ifs with one cell as one."""
    behind = dict(second[2])
    words = [word for word, _ in first[2]]
    branches = [(word, rows + behind.get(word, ())) for word, rows in first[2]]
    branches.extend([(word, rows) for word, rows in second[2] if word not in words])
    return (first[0], first[1], tuple(branches))


def two_made_one(rows):
    """Rows with the two ifs with which they begin made one, or None if they do not begin so."""
    if len(rows) < 2 or rows[0][0] != "if" or rows[1][0] != "if":
        return None
    cell = rows[0][1]
    if rows[1][1] != cell or do_write(rows[:1], cell):
        return None
    return (one_if(rows[0], rows[1]),) + rows[2:]


def merged(program, rows):
    """Rows with ifs of one cell that stand side by side made one."""
    ground = Ground(program)
    found = rows
    while found is not None:
        rows = found
        found = changed_once(ground, rows, two_made_one)
    return rows


def bare_if_gone(rows):
    """Rows without the if without branches with which they begin, or None if they do not begin so."""
    return rows[1:] if rows[0][0] == "if" and len(rows[0][2]) == 0 else None


def bared(program, rows):
    """Rows without those that are not needed."""
    ground = Ground(program)
    found = rows
    while found is not None:
        rows, _ = needed(found, 0)
        found = changed_once(ground, rows, bare_if_gone)
    return rows


def in_way(writes):
    """The dict from the cells that are written, as they are first written, to the masks of cells in their way.

    That a cell may stand in its own way does no harm.
    """
    found = {cell: 0 for cell, _ in writes}
    cells = list(found)
    for cell, wanted in writes:
        for other in cells:
            if wanted & bit_of(other):
                found[cell] = found[cell] | bit_of(other)
                found[other] = found[other] | bit_of(cell)
    return found


def numbers_for(rows):
    """The dict from the cells in rows to the numbers that they get."""
    writes, _ = writes_in(rows, 0)
    ways = in_way(writes[::-1])
    numbers = {}
    for cell, way in ways.items():
        taken = [number for other, number in numbers.items() if way & bit_of(other)]
        numbers[cell] = min([number for number in range(len(ways)) if number not in taken])
    written = 1 + max(list(numbers.values()), default=-1)
    unwritten = [cell for cell in cells_in(rows) if cell not in numbers]
    for place, cell in enumerate(unwritten):
        numbers[cell] = written + place
    return numbers


def renumbered(rows, numbers):
    """Rows with other numbers for their cells."""
    return tuple([renumbered_row(row, numbers) for row in rows])


def renumbered_row(row, numbers):
    """A row with other numbers for its cells."""
    word = row[0]
    if word == "renew":
        return row
    if word in ("tell", "store"):
        return (word, row[1], numbers[row[2]])
    cell = numbers[row[1]]
    if word == "if":
        return (word, cell, tuple([(name, renumbered(inner, numbers)) for name, inner in row[2]]))
    if word == "put":
        return (word, cell, row[2], tuple([numbers[operand] for operand in row[3]]))
    if word == "copy":
        return (word, cell, numbers[row[2]])
    return (word, cell) + row[2:]


def shared(program, rows):
    """Rows with as small numbers for their cells as can be told one by one."""
    found = renumbered(rows, numbers_for(rows))
    return rows if rows_fault(Ground(program), found) is not None else found
