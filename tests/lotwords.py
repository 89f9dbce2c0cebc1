"""Closed lots, wishes and pairs by the words of part 9: walks in breadth, with all runs kept."""

import itertools

from tickworks.errors import TooMany
from tickworks.rounds import first_state
from tickworks.runs import tick
from tickworks.types import values_of


def rows_of(made):
    """All input rows."""
    return list(itertools.product(*[values_of(kind) for _, kind in made.main()[1]]))


def walk(first, rows, cap, leave):
    """What is met, in order, or the run that ends the walk and what ended it."""
    met, runs = [first], [()]
    for number in itertools.count():
        if number == len(met):
            return met, None
        for row in rows:
            end, behind = leave(met[number], row)
            if end is not None:
                return (*runs[number], row), end
            if behind is not None and behind not in met:
                if len(met) == cap:
                    raise TooMany()
                met.append(behind)
                runs.append((*runs[number], row))


def closed_by_words(made, cap=400):
    """What closed_lot tells."""
    def leave(state, row):
        told = tick(made, state, row)
        return (None, told[2]) if told[0] == "good" else (told, None)
    found, end = walk(first_state(made), rows_of(made), cap, leave)
    return ("closed", tuple(found)) if end is None else ("run", found, end)


def kept_by_words(made, output, values, cap=400):
    """What wish_kept tells."""
    place = made.main()[2].index(output)

    def leave(state, row):
        told = tick(made, state, row)
        if told[0] != "good":
            return ("bad", told), None
        if told[1][place] is not None and told[1][place] not in values:
            return ("broken",), None
        return None, told[2]
    found, end = walk(first_state(made), rows_of(made), cap, leave)
    return ("kept", tuple(found)) if end is None else (end[0], found, *end[1:])


def do_part(one, other):
    """Whether two ticks part two programs."""
    if one[0] == "good" and other[0] == "good":
        return one[1] != other[1]
    return one[0] != other[0]


def alike_by_words(one, other, first=None, cap=400):
    """What alike tells, from a pair of states on."""
    def leave(pair, row):
        told, more = tick(one, pair[0], row), tick(other, pair[1], row)
        if do_part(told, more):
            return True, None
        return None, (told[2], more[2]) if told[0] == "good" else None
    first = (first_state(one), first_state(other)) if first is None else first
    found, end = walk(first, rows_of(one), cap, leave)
    return ("alike" if end is None else "parts", tuple(found))


def runs_of(made, most):
    """All runs of at most so many rows, shorter ones first, then in order."""
    rows = rows_of(made)
    for many in range(most + 1):
        yield from itertools.product(rows, repeat=many)
