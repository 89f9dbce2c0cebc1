"""Jobs: what rows have to do in a tick, each by itself.

A job is a tuple (stream, clock, reads, rows). The stream is worked out into a cell of its own; it is
None where rows tell, store or renew. The rows are done where the clock, of pairs (root, word), is
open, and read cells that hold the streams of reads. Only a choose's rows depend on the conditions:
they are made by choose_rows.
"""

from tickworks.items import levels


def worked_out(ground):
    """The list of the streams that are worked out into cells, each behind all that it asks for."""
    order = levels(ground.program)
    told = [(level, ground.numbers[stream]) for (stream, word), level in order.items() if word == "told"]
    return [number for _, number in sorted(told) if ground.roots[number] == number]


def cell_of(ground, number):
    """The cell that holds a stream: that of its root."""
    return ground.roots[number]


def first_row(ground, number):
    """The row that works out a stream, but a choose."""
    right = ground.rights[number]
    name = ground.streams[number]
    if right[0] == "input":
        return ("get", number, name)
    if right[0] == "const":
        return ("const", number, right[1], right[2])
    if right[0] == "held":
        return ("load", number, name)
    args = ground.operands[number]
    kinds = tuple([ground.kinds[arg] for arg in args])
    return ("put", number, right[:-1] + (kinds,), tuple([cell_of(ground, arg) for arg in args]))


def working_job(ground, number):
    """The job that works out a stream."""
    word = ground.rights[number][0]
    if word == "choose":
        return (number, ground.clocks[number], ground.operands[number], ())
    rows = (first_row(ground, number),)
    if word in ("op", "table"):
        return (number, ground.clocks[number], ground.operands[number], rows)
    # These rows read no cell, so they can be done whatever is there.
    return (number, (), [], rows)


def handing_job(ground, stream, clock, row):
    """The job that hands a stream on by a row."""
    return (None, clock, [stream], (row,))


def telling_jobs(ground):
    """The list of the jobs that tell the outputs."""
    numbers = [ground.numbers[output] for output in ground.program.main()[2]]
    return [
        handing_job(ground, number, ground.clocks[number], ("tell", ground.streams[number], cell_of(ground, number)))
        for number in numbers
    ]


def keeping_jobs(ground):
    """The list of the jobs that move the memories: stores, then renews."""
    stores, renews = [], []
    for number, right in enumerate(ground.rights):
        if right[0] == "held":
            held = ground.streams[number]
            stream, _ = ground.operands[number]
            row = ("store", held, cell_of(ground, stream))
            stores.append(handing_job(ground, stream, ground.clocks[number], row))
            for cond, word in right[5]:
                begun = ground.numbers[cond]
                clock = ground.clocks[begun] + ((ground.roots[begun], word),)
                renews.append(handing_job(ground, begun, clock, ("renew", (held,))))
    return stores + renews


def jobs_of(ground):
    """The list of all jobs, in an order in which they can be done."""
    working = [working_job(ground, number) for number in worked_out(ground)]
    return working + telling_jobs(ground) + keeping_jobs(ground)
