"""The judge's way through rows, with conditions and facts."""

from tickworks.conditions import do_clash, from_pairs
from tickworks.rows import WRITING


class Against(Exception):
    """A row is against the rules; the path leads to it."""

    def __init__(self, path):
        super().__init__("the row at this path is against the rules")
        self.path = path


class Place:
    """A place in rows: the conditions there, and the facts, a dict from cells to masks of streams."""

    def __init__(self, ground, conditions, facts):
        self.ground = ground
        self.conditions = conditions
        self.view = ground.view_of(conditions)
        self.facts = {cell: self.view.closed(mask) for cell, mask in facts.items()}

    def known(self, cell):
        """The mask of the streams with which a cell has a fact."""
        return self.facts.get(cell, 0)

    def sure(self, cell):
        """The list of the sure streams with which a cell has a fact."""
        return self.ground.listed(self.known(cell) & self.view.sure_mask)

    def write(self, cell, mask):
        """Ends the facts of a cell and brings those with the streams of a mask."""
        self.facts[cell] = self.view.closed(mask)

    def within(self, group, word):
        """The place where the rows of an if's word begin, or None if the word is passed over."""
        pairs = list(self.conditions.items()) + [(root, word) for root in group]
        conditions = from_pairs(pairs)
        return None if conditions is None else Place(self.ground, conditions, self.facts)

    def behind(self, ends):
        """The place behind an if; ends are the places behind the rows of the words not passed over."""
        facts = self.facts
        if len(ends) > 0:
            cells = {cell: True for end in ends for cell in end.facts}
            facts = {cell: met_again(ends, cell) for cell in cells}
        return Place(self.ground, self.conditions, facts)


def met_again(ends, cell):
    """The mask of the streams with which a cell has a fact behind an if with these ends."""
    some, each = 0, -1
    for end in ends:
        some = some | end.known(cell)
        each = each & (end.known(cell) | end.view.clashing_mask)
    return some & each


class Walk:
    """A way through rows: which tells, stores, renews and ifs were gone through, and where."""

    def __init__(self, ground):
        self.ground = ground
        self.ifs = []
        self._conditions = {}

    def passed(self, word, name):
        """The list of the conditions at which rows with this first word did this output or held."""
        return self._conditions.get((word, name), [])

    def was_here(self, place, words, name):
        """Whether a row with one of these first words was gone through that does not clash with this place."""
        passed = [conditions for word in words for conditions in self.passed(word, name)]
        return not all([do_clash(conditions, place.conditions) for conditions in passed])

    def note(self, place, row):
        """Notes that a tell, a store or a renew is gone through at this place."""
        names = list(row[1]) if row[0] == "renew" else [row[1]]
        for name in names:
            self._conditions.setdefault((row[0], name), []).append(place.conditions)

    def go(self, place, rows, path):
        """The place behind rows that begin at this place and path; Against for the first wrong one."""
        for number, row in enumerate(rows):
            here = path + (number,)
            if not self.is_right(place, row):
                raise Against(here)
            if row[0] == "if":
                place = self.go_if(place, row, here)
            elif row[0] in WRITING:
                place.write(row[1], self.brought(place, row))
            else:
                self.note(place, row)
        return place

    def is_right(self, place, row):
        """Whether a row is right at this place, its branches aside."""
        word = row[0]
        if word == "copy":
            return len(place.sure(row[2])) > 0
        if word == "put":
            return all([self.has_kind(place, cell, kind) for cell, kind in zip(row[3], row[2][-1])])
        if word == "if":
            return self.lot_at(place, row) is not None
        if word == "tell":
            told = self.ground.numbers[row[1]]
            return told in place.sure(row[2]) and not self.was_here(place, ("tell",), row[1])
        if word == "store":
            stream, _ = self.ground.operands[self.ground.numbers[row[1]]]
            return stream in place.sure(row[2]) and not self.was_here(place, ("store", "renew"), row[1])
        return word != "renew" or all([self.is_begun_again(place, held) for held in row[1]])

    def has_kind(self, place, cell, kind):
        """Whether a cell has a fact with a sure stream of this type."""
        return any([self.ground.kinds[number] == kind for number in place.sure(cell)])

    def is_begun_again(self, place, held):
        """Whether the cond of one of a held's agains is sure at this place, and has its word."""
        agains = self.ground.rights[self.ground.numbers[held]][5]
        return any([self.is_at(place, cond, word) for cond, word in agains])

    def is_at(self, place, cond, word):
        """Whether a cond is sure at this place, and has this word."""
        is_sure = place.view.sure_mask >> self.ground.numbers[cond] & 1 == 1
        return is_sure and place.conditions.get(self.ground.root(cond)) == word

    def brought(self, place, row):
        """The mask of the streams with which a row that writes a cell brings facts."""
        word = row[0]
        if word == "copy":
            return place.known(row[2])
        if word == "get" or (word == "load" and not self.was_here(place, ("store", "renew"), row[2])):
            return 1 << self.ground.numbers[row[2]]
        found = 0
        for number, right in enumerate(self.ground.rights):
            if word == "const" and right[:3] == ("const", row[2], row[3]):
                found = found | 1 << number
            if word == "put" and self.is_put(place, row, number):
                found = found | 1 << number
        return found

    def is_put(self, place, row, number):
        """Whether a put works out this stream."""
        what, cells = row[2], row[3]
        args = self.ground.operands[number]
        if self.ground.rights[number][:-1] != what[:-1]:
            return False
        if tuple([self.ground.kinds[arg] for arg in args]) != what[-1]:
            return False
        return all([place.known(cell) >> arg & 1 for cell, arg in zip(cells, args)])

    def lot_at(self, place, row):
        """The lot of an if at this place, or None if there is none with the words of all its branches."""
        for number in place.sure(row[1]):
            kind = self.ground.kinds[number]
            if kind[0] == "lot" and all([word in kind[1] for word, _ in row[2]]):
                return kind
        return None

    def ways(self, place, row):
        """The list of the pairs (word, place where its rows begin) of an if, but for words passed over."""
        lot = self.lot_at(place, row)
        group = {
            self.ground.roots[number]: True
            for number in place.sure(row[1]) if self.ground.kinds[number] == lot
        }
        self.ifs.append((place.conditions, tuple(group)))
        ways = [(word, place.within(group, word)) for word in lot[1]]
        return [(word, inner) for word, inner in ways if inner is not None]

    def go_if(self, place, row, path):
        """The place behind an if at this place and path; Against for the first wrong row in it."""
        branches = {word: (number, rows) for number, (word, rows) in enumerate(row[2])}
        ends = []
        for word, inner in self.ways(place, row):
            number, rows = branches.get(word, (0, ()))
            ends.append(self.go(inner, rows, path + (number,)))
        return place.behind(ends)
