"""What a program is, written out."""


def written_out(program):
    """The list of the rows (stream, right) of main with all calls put in."""
    return [(stream, right) for stream, right, _ in program.written_rows()]


def written_types(program):
    """The dict from the streams of the written-out rows, in their order, to their types."""
    return {stream: kind for stream, _, kind in program.written_rows()}


def helds_of(program):
    """The list of the streams of helds, in the order of the rows."""
    return [stream for stream, right, _ in program.written_rows() if right[0] == "held"]
