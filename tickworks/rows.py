"""Rows for the machine with cells: their form, and the cells in them."""

from tickworks.kinds import op_fits
from tickworks.shapes import OPS
from tickworks.types import count_of, is_number, is_tuple, type_fault, value_fault
from tickworks.words import is_word

LAST_CELL = 99

# What stands behind each row's first word, part by part.
ROW_SHAPES = {
    "get": ("cell", "source"),
    "const": ("cell", "kind", "value"),
    "load": ("cell", "held"),
    "copy": ("cell", "cell"),
    "put": ("cell", "what", "cells"),
    "if": ("cell", "branches"),
    "tell": ("output", "cell"),
    "store": ("held", "cell"),
    "renew": ("helds",),
}

WRITING = ("get", "const", "load", "copy", "put")


def is_cell(value):
    """Whether any value is a cell."""
    return is_number(value) and 0 <= value <= LAST_CELL


def are_kinds(value):
    """Whether any value is a tuple of one or more types."""
    return isinstance(value, tuple) and len(value) > 0 and all([type_fault(kind) is None for kind in value])


def are_results(kind, kinds, value):
    """Whether any value is a tuple of one value of a type for each row of values of these types."""
    if not isinstance(value, tuple):
        return False
    rows = 1
    for operand in kinds:
        rows = rows * count_of(operand)
        # However many types there are, the product stays small so.
        if rows > len(value):
            return False
    return rows == len(value) and all([value_fault(kind, result) is None for result in value])


def tells_op(value):
    """Whether a tuple of three tells an op and types for which it is right."""
    word, kinds = value[1], value[2]
    if not isinstance(word, str) or word not in OPS or not are_kinds(kinds):
        return False
    return len(kinds) == OPS[word] and op_fits(word, kinds)


def tells_table(value):
    """Whether a tuple of four tells a table: its type, its results and its operands' types."""
    _, kind, results, kinds = value
    return type_fault(kind) is None and are_kinds(kinds) and are_results(kind, kinds, results)


def is_what(value):
    """Whether any value tells what is put."""
    if not is_tuple(value, 3, 4):
        return False
    if value[0] == "op":
        return len(value) == 3 and tells_op(value)
    return value[0] == "table" and len(value) == 4 and tells_table(value)


def are_cells(value, many):
    """Whether any value is a tuple of so many cells."""
    return is_tuple(value, many, many) and all([is_cell(cell) for cell in value])


def are_helds(names, value):
    """Whether any value is a tuple of one or more helds."""
    return isinstance(value, tuple) and len(value) > 0 and all([held in names["held"] for held in value])


def part_fits(names, row, role, part):
    """Whether any value is right as a part of a row, of which the parts ahead are right."""
    if role == "cell":
        return is_cell(part)
    if role in names:
        return part in names[role]
    if role == "kind":
        return type_fault(part) is None
    if role == "value":
        return value_fault(row[2], part) is None
    if role == "what":
        return is_what(part)
    if role == "cells":
        return are_cells(part, len(row[2][-1]))
    if role == "helds":
        return are_helds(names, part)
    return isinstance(part, tuple)


def is_row(names, value):
    """Whether any value has the form of a row, an if's branches aside."""
    if not isinstance(value, tuple) or len(value) == 0:
        return False
    word = value[0]
    if not isinstance(word, str) or word not in ROW_SHAPES or len(value) != 1 + len(ROW_SHAPES[word]):
        return False
    for role, part in zip(ROW_SHAPES[word], value[1:]):
        if not part_fits(names, value, role, part):
            return False
    return True


def is_branch(value, ahead):
    """Whether any value has the form of a branch, its rows aside; ahead has the words of those ahead."""
    if not is_tuple(value, 2, 2) or not is_word(value[0]):
        return False
    return value[0] not in ahead and isinstance(value[1], tuple)


def branches_path(names, branches, path):
    """The path to the first wrong branch or row in an if's branches, or None."""
    ahead = {}
    for place, branch in enumerate(branches):
        here = path + (place,)
        if not is_branch(branch, ahead):
            return here
        ahead[branch[0]] = True
        found = rows_path(names, branch[1], here)
        if found is not None:
            return found
    return None


def rows_path(names, rows, path):
    """The path to the first wrong row or branch in rows that stand at this path, or None."""
    for place, row in enumerate(rows):
        here = path + (place,)
        found = here
        if is_row(names, row):
            found = branches_path(names, row[2], here) if row[0] == "if" else None
        if found is not None:
            return found
    return None


def names_in(program):
    """The dict from the roles of names in rows to the lists of these names."""
    main = program.main()
    return {
        "source": [word for word, _ in main[1]],
        "output": list(main[2]),
        "held": [stream for stream, right, _ in program.written_rows() if right[0] == "held"],
    }


def form_fault(program, value):
    """The path to the first wrong row or branch in any value, or None if it is rows."""
    if not isinstance(value, tuple):
        return ()
    return rows_path(names_in(program), value, ())


def written_cell(row):
    """The cell that a row writes, or None."""
    return row[1] if row[0] in WRITING else None


def read_cells(row):
    """The list of the cells that a row reads itself."""
    if row[0] == "if":
        return [row[1]]
    if row[0] in ("copy", "tell", "store"):
        return [row[2]]
    return list(row[3]) if row[0] == "put" else []


def note_cells(rows, met):
    """Puts all cells that stand in rows into met, as keys."""
    for row in rows:
        for cell in read_cells(row):
            met[cell] = True
        if row[0] in WRITING:
            met[row[1]] = True
        if row[0] == "if":
            for _, inner in row[2]:
                note_cells(inner, met)


def cells_in(rows):
    """The ascending tuple of all cells that stand in rows."""
    met = {}
    note_cells(rows, met)
    return tuple(sorted(met))
