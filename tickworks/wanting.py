"""Cells that are wanted behind rows: sets of cells are masks, bit k for the cell k."""

from tickworks.rows import read_cells, written_cell


def bit_of(cell):
    """The mask of one cell."""
    return 1 << cell


def wanted_by(row, behind):
    """The mask of the cells wanted ahead of a row, an if's branches aside, from those wanted behind it."""
    cell = written_cell(row)
    wanted = behind
    if cell is not None and behind & bit_of(cell):
        wanted = behind - bit_of(cell)
    for read in read_cells(row):
        wanted = wanted | bit_of(read)
    return wanted


def needed(rows, behind):
    """A pair: rows without those that write what is not wanted and without empty branches, and what they want.

    behind is the mask of the cells wanted behind the rows; the second one is that of those wanted ahead.
    """
    kept = []
    wanted = behind
    for row in reversed(rows):
        if row[0] == "if":
            bare, wanted = needed_if(row, wanted)
            kept.append(bare)
        elif written_cell(row) is None or wanted & bit_of(row[1]):
            kept.append(row)
            wanted = wanted_by(row, wanted)
    return tuple(kept[::-1]), wanted


def needed_if(row, behind):
    """The same pair for an if."""
    branches = []
    wanted = wanted_by(row, behind)
    for word, rows in row[2]:
        kept, ahead = needed(rows, behind)
        wanted = wanted | ahead
        if len(kept) > 0:
            branches.append((word, kept))
    return (row[0], row[1], tuple(branches)), wanted


def writes_in(rows, behind):
    """A pair: the list of what rows write, the last one by paths first, and what they want.

    What is written is told as (cell, mask of the cells wanted behind the row).
    """
    writes = []
    wanted = behind
    for row in reversed(rows):
        ahead = wanted_by(row, wanted)
        if row[0] == "if":
            for _, inner in reversed(row[2]):
                found, more = writes_in(inner, wanted)
                writes.extend(found)
                ahead = ahead | more
        elif written_cell(row) is not None:
            writes.append((row[1], wanted))
        wanted = ahead
    return writes, wanted
