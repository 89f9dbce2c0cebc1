"""Rows made out of jobs.

A job's rows stand in ifs of their own, one for each pair of its clock that is open to question.
Behind such ifs a fact can be missing, though the stream may be there: where an if lets no word
by, no tick comes, but the judge goes on. Then one of the ifs takes in all that is still to be done.
"""

from tickworks.jobs import cell_of
from tickworks.walks import Against, Place, Walk


def choose_rows(ground, number, words):
    """The rows that work out a choose where roots have these words."""
    cond, *branches = ground.operands[number]
    copies = {
        word: (("copy", number, cell_of(ground, branch)),)
        for word, branch in zip(ground.kinds[cond][1], branches)
    }
    word = words.get(ground.roots[cond])
    if word is not None:
        return copies[word]
    return (("if", cell_of(ground, cond), tuple(copies.items())),)


def job_rows(ground, job, words):
    """The rows that do a job where roots have these words; none if its clock is closed then."""
    stream, clock, _, rows = job
    told = dict(words)
    asked = []
    for root, word in clock:
        if root not in told:
            told[root] = word
            asked.append((root, word))
        elif told[root] != word:
            return ()
    done = rows if len(rows) > 0 else choose_rows(ground, stream, told)
    for root, word in reversed(asked):
        done = (("if", cell_of(ground, root), ((word, done),)),)
    return done


def place_behind(ground, place, rows):
    """The place behind rows that begin at this place, or None if one of them is wrong."""
    begun = Place(ground, place.conditions, place.facts)
    try:
        return Walk(ground).go(begun, rows, ())
    except Against:
        return None


def is_held(facts, number):
    """Whether the cell of a stream that is worked out holds it, by these facts."""
    return facts.get(number, 0) >> number & 1 == 1


def rows_split(ground, jobs, job, place, begun):
    """Rows that do all jobs, with one if that takes in all from a stream on that this job lacks.

    begun has, of each stream whose job was done, the rows and the facts ahead of it, and its rows.
    """
    roots = [ground.roots[number] for number in job[2]] + [root for root, _ in job[1]]
    lacking = [begun[number] for number in roots if not is_held(place.facts, number)]
    # What is never there has no rows; all else that was done and is lacking stands in an if.
    rows, facts, done = [found for found in lacking if len(found[2]) > 0][0]
    asked = done[0][:2]
    ways = Walk(ground).ways(Place(ground, place.conditions, facts), asked + ((),))
    return rows + (asked + (tuple([(word, rows_from(ground, jobs, inner)) for word, inner in ways]),),)


def rows_from(ground, jobs, place):
    """Rows that do, from this place on, all jobs that are still to be done."""
    rows = ()
    begun = {}
    for job in jobs:
        stream = job[0]
        if stream is None or not is_held(place.facts, stream):
            more = job_rows(ground, job, place.conditions)
            begun[stream] = (rows, place.facts, more)
            behind = place_behind(ground, place, more)
            if behind is None:
                return rows_split(ground, jobs, job, place, begun)
            place = behind
            rows = rows + more
    return rows
