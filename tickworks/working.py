"""What working out the streams of a swift program wants, and what moves its memories."""

from tickworks.clocks import written_clocks
from tickworks.sequences import each_once
from tickworks.shapes import worked_from


class Work:
    """The streams of a swift program, what each of them wants, and what moves each held."""

    def __init__(self, program):
        clocks = written_clocks(program)
        self.streams = list(clocks)
        self.rights = {stream: right for stream, right, _ in program.written_rows()}
        self.wants = {}
        self.moved = {}
        for stream, right in self.rights.items():
            conds = [cond for cond, _ in clocks[stream]]
            self.wants[stream] = each_once(conds + worked_from(right))
            if right[0] == "held":
                self.moved[stream] = each_once([right[3]] + self.again_conds(stream))

    def again_conds(self, held):
        """The list of the conds of a held's agains."""
        return [cond for cond, _ in self.rights[held][5]]

    def helds_in(self, actions):
        """The list of the helds that actions do, in the written-out order."""
        return [held for held in self.moved if ("do", held) in actions]

    def helds_moved_by(self, stream, actions):
        """The list of the helds that actions do and that have this stream as their own."""
        return [held for held in self.helds_in(actions) if self.rights[held][3] == stream]
