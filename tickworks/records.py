"""Records: all that a plant tells at one time. Nothing in a record is ever changed."""


class Record:
    """The moments, the log, the branches and the branch where a plant stands.

    A moment is (program, state, told), a line of the log (elder, deed), a branch (name, trail, place).
    """

    def __init__(self, moments, lines, twigs, stand):
        self.moments = moments
        self.lines = lines
        self.twigs = twigs
        self.stand = stand

    def in_common(self):
        """All that two equal plants have in common."""
        return (self.moments[0][0], self.lines, self.twigs, self.stand)

    def twig(self):
        """The branch where the plant stands."""
        return [twig for twig in self.twigs if twig[0] == self.stand][0]

    def present(self):
        """The number of the moment at which the plant stands."""
        _, trail, place = self.twig()
        return trail[place]

    def with_twig(self, changed):
        """A record with another trail and place for the branch where the plant stands."""
        twigs = tuple([changed if twig[0] == changed[0] else twig for twig in self.twigs])
        return Record(self.moments, self.lines, twigs, self.stand)

    def shifted(self, places):
        """A record in which the plant stands so many places on in its trail, or None if there is no such place."""
        name, trail, place = self.twig()
        if not 0 <= place + places < len(trail):
            return None
        return self.with_twig((name, trail, place + places))

    def grown(self, moment, deed):
        """A record with a new moment that a deed makes out of the present one."""
        name, trail, place = self.twig()
        line = (trail[place], deed)
        longer = trail[:place + 1] + (len(self.moments),)
        record = Record(self.moments + (moment,), self.lines + (line,), self.twigs, self.stand)
        return record.with_twig((name, longer, place + 1))

    def branched(self, name):
        """A record with a new branch that begins at the present moment."""
        twig = (name, (self.present(),), 0)
        return Record(self.moments, self.lines, self.twigs + (twig,), self.stand)

    def standing_in(self, name):
        """A record in which the plant stands in another branch."""
        return Record(self.moments, self.lines, self.twigs, name)
