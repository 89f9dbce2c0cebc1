"""Rows with parts changed by chance."""

from drawn import MODES
from samples import YES_NO
from tickworks.written import helds_of, written_out


def paths_in(rows, path=()):
    """The paths of all rows, as they ascend."""
    for place, row in enumerate(rows):
        yield (*path, place)
        if row[0] == "if":
            for branch, (_, inner) in enumerate(row[2]):
                yield from paths_in(inner, (*path, place, branch))


def edited(rows, path, change):
    """Rows in which those that a path stands among are what change makes of them and of the path's last number."""
    if len(path) == 1:
        return change(rows, path[0])
    place, branch = path[:2]
    _, cell, branches = rows[place]
    word, inner = branches[branch]
    branches = branches[:branch] + ((word, edited(inner, path[2:], change)),) + branches[branch + 1:]
    return rows[:place] + (("if", cell, branches),) + rows[place + 1:]


class Change:
    """Changes of rows for one program."""

    def __init__(self, chance, made):
        self.chance = chance
        self.cells = list(range(len(written_out(made))))
        self.helds = helds_of(made)
        self.outputs = made.main()[2]

    def changed(self, rows):
        """Rows with one change at some place."""
        paths = list(paths_in(rows))
        if not paths:
            return rows
        ways = [self.gone, self.doubled, self.exchanged, self.with_cell, self.with_branches, self.put_into_if,
                self.put_out_of_if, self.with_if, self.with_more]
        return edited(rows, self.chance.choice(paths), self.chance.choice(ways))

    def gone(self, rows, at):
        return rows[:at] + rows[at + 1:]

    def doubled(self, rows, at):
        return rows[:at + 1] + rows[at:]

    def exchanged(self, rows, at):
        other = self.chance.randrange(len(rows))
        found = list(rows)
        found[at], found[other] = found[other], found[at]
        return tuple(found)

    def with_cell(self, rows, at):
        row, cell = rows[at], self.chance.choice(self.cells)
        if row[0] in ("tell", "store") or (row[0] == "copy" and self.chance.random() < 0.5):
            row = row[:2] + (cell,)
        elif row[0] != "renew":
            row = (row[0], cell) + row[2:]
        return rows[:at] + (row,) + rows[at + 1:]

    def with_branches(self, rows, at):
        row = rows[at]
        if row[0] != "if" or not row[2]:
            return rows
        branches = list(row[2])
        way = self.chance.randrange(3)
        if way == 0:
            del branches[self.chance.randrange(len(branches))]
        elif way == 1:
            self.chance.shuffle(branches)
        else:
            words = [word for word, _ in branches]
            branches = [(word, inner) for word, (_, inner) in zip(words[1:] + words[:1], branches)]
        return rows[:at] + ((row[0], row[1], tuple(branches)),) + rows[at + 1:]

    def put_into_if(self, rows, at):
        end = self.chance.randrange(at, len(rows) + 1)
        words = self.chance.choice([YES_NO, YES_NO, MODES])[1]
        branches = tuple((word, rows[at:end]) for word in words if self.chance.random() < 0.7)
        return rows[:at] + (("if", self.chance.choice(self.cells), branches),) + rows[end:]

    def put_out_of_if(self, rows, at):
        if rows[at][0] != "if" or not rows[at][2]:
            return rows
        return rows[:at] + self.chance.choice(rows[at][2])[1] + rows[at + 1:]

    def with_if(self, rows, at):
        return rows[:at] + (("if", self.chance.choice(self.cells), ()),) + rows[at:]

    def with_more(self, rows, at):
        cell, other = self.chance.choice(self.cells), self.chance.choice(self.cells)
        found = [("copy", cell, other), ("tell", self.chance.choice(self.outputs), other)]
        if self.helds:
            held = self.chance.choice(self.helds)
            found += [("load", cell, held), ("store", held, other), ("renew", (held,)),
                      ("renew", tuple(self.helds[:2]))]
        return rows[:at] + (self.chance.choice(found),) + rows[at:]
