"""The judge of rows: whether they tell what ticks tell."""

from tickworks.covers import are_all_told, is_kept
from tickworks.ground import Ground
from tickworks.rows import form_fault
from tickworks.walks import Against, Place, Walk


def first_place(ground):
    """The place ahead of all rows."""
    return Place(ground, {}, {})


def rows_fault(ground, rows):
    """What is against the rules in rows in form, or None if they are let by."""
    walk = Walk(ground)
    try:
        walk.go(first_place(ground), rows, ())
    except Against as against:
        return ("row", against.path)
    for output in ground.program.main()[2]:
        if not are_all_told(walk, output):
            return ("told", output)
    for stream, right in zip(ground.streams, ground.rights):
        if right[0] == "held" and not is_kept(walk, stream):
            return ("kept", stream)
    return None


def judge_rows(program, value):
    """None if any value is rows that are let by, else the first fault."""
    path = form_fault(program, value)
    if path is not None:
        return ("form", path)
    return rows_fault(Ground(program), value)


def facts_behind(program, rows):
    """The list of the pairs (cell, streams with which it has a fact) behind rows that are let by."""
    ground = Ground(program)
    place = Walk(ground).go(first_place(ground), rows, ())
    return [
        (cell, tuple([ground.streams[number] for number in ground.listed(place.known(cell))]))
        for cell in sorted(place.facts) if place.known(cell) > 0
    ]
