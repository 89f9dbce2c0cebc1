"""The judge of rows, by the words of [6.3] and [6.4] alone: sets of pairs, and all words of all roots."""

import itertools

from tickworks.clocks import written_clocks
from tickworks.written import written_out, written_types


class Wrong(Exception):
    """The row at this path is against [6.3]."""


class Words:
    """A judge of rows for one program."""

    def __init__(self, program):
        self.program = program
        self.rights = dict(written_out(program))
        self.order = list(self.rights)
        self.types = written_types(program)
        told = written_clocks(program)
        self.clocks = {s: {(self.root(cond), word) for cond, word in told[s]} for s in self.order}

    def root(self, stream):
        right = self.rights[stream]
        if right[0] == "as" or right[0] == "when":
            return self.root(right[1])
        if right[0] == "arg":
            return self.root(right[1][right[2]])
        return stream

    def clash(self, *sets):
        pairs = set().union(*sets)
        return any(one[0] == other[0] and one[1] != other[1] for one in pairs for other in pairs)

    def sure(self, stream, conditions):
        return self.clocks[stream] <= conditions

    def closed(self, facts, conditions):
        facts = set(facts)
        while True:
            found = set(facts)
            for cell in {cell for cell, _ in facts}:
                def both(one, other):
                    if (cell, one) in facts:
                        found.add((cell, other))
                    if (cell, other) in facts:
                        found.add((cell, one))
                for stream, right in self.rights.items():
                    if right[0] == "as":
                        both(stream, right[1])
                    if right[0] == "arg":
                        both(stream, right[1][right[2]])
                    if right[0] == "when":
                        if (cell, right[1]) in facts:
                            found.add((cell, stream))
                        if (self.root(right[2]), right[3]) in conditions:
                            both(stream, right[1])
                    if right[0] == "choose":
                        for word, branch in zip(self.types[right[1]][1], right[2]):
                            if (self.root(right[1]), word) in conditions:
                                both(stream, branch)
            if found == facts:
                return facts
            facts = found

    def of(self, facts, cell):
        return [stream for stream in self.order if (cell, stream) in facts]

    def sure_of(self, facts, cell, conditions):
        return [stream for stream in self.of(facts, cell) if self.sure(stream, conditions)]

    def behind(self, rows, path, conditions, facts):
        """The facts behind rows."""
        facts = self.closed(facts, conditions)
        for place, row in enumerate(rows):
            facts = self.closed(self.row(row, (*path, place), conditions, facts), conditions)
        return facts

    def went(self, words, name, conditions):
        return any(w in words and n == name and not self.clash(c, conditions) for w, n, c in self.gone)

    def row(self, row, path, conditions, facts):
        word = row[0]
        if word in ("get", "const", "load", "copy", "put"):
            brought = self.brought(row, path, conditions, facts)
            return {(cell, s) for cell, s in facts if cell != row[1]} | {(row[1], s) for s in brought}
        if word == "if":
            return self.branches(row, path, conditions, facts)
        if word == "tell":
            if row[1] not in self.sure_of(facts, row[2], conditions) or self.went(["tell"], row[1], conditions):
                raise Wrong(path)
            self.gone.append(("tell", row[1], conditions))
        if word == "store":
            stream = self.rights[row[1]][3]
            if stream not in self.sure_of(facts, row[2], conditions):
                raise Wrong(path)
            if self.went(["store", "renew"], row[1], conditions):
                raise Wrong(path)
            self.gone.append(("store", row[1], conditions))
        if word == "renew":
            for held in row[1]:
                agains = self.rights[held][5]
                if not any(self.sure(cond, conditions) and (self.root(cond), w) in conditions for cond, w in agains):
                    raise Wrong(path)
            for held in row[1]:
                self.gone.append(("renew", held, conditions))
        return facts

    def brought(self, row, path, conditions, facts):
        word = row[0]
        if word == "get":
            return {row[2]}
        if word == "const":
            return {s for s, right in self.rights.items() if right[0] == "const" and right[1:3] == row[2:]}
        if word == "load":
            return set() if self.went(["store", "renew"], row[2], conditions) else {row[2]}
        if word == "copy":
            if not self.sure_of(facts, row[2], conditions):
                raise Wrong(path)
            return set(self.of(facts, row[2]))
        what, cells = row[2], row[3]
        types = what[-1]
        for cell, kind in zip(cells, types):
            if kind not in [self.types[s] for s in self.sure_of(facts, cell, conditions)]:
                raise Wrong(path)
        found = set()
        for s, right in self.rights.items():
            alike = right[0] == what[0] and right[1] == what[1] and (right[0] == "op" or right[2] == what[2])
            if right[0] in ("op", "table") and alike and len(right[-1]) == len(cells):
                if all(self.types[arg] == kind for arg, kind in zip(right[-1], types)):
                    if all((cell, arg) in facts for cell, arg in zip(cells, right[-1])):
                        found.add(s)
        return found

    def branches(self, row, path, conditions, facts):
        words = [word for word, _ in row[2]]
        lots = [self.types[s] for s in self.sure_of(facts, row[1], conditions) if self.types[s][0] == "lot"]
        lots = [lot for lot in lots if set(words) <= set(lot[1])]
        if not lots:
            raise Wrong(path)
        group = {self.root(s) for s in self.sure_of(facts, row[1], conditions) if self.types[s] == lots[0]}
        self.ifs.append((conditions, group))
        ends = []
        for word in lots[0][1]:
            inner = conditions | {(root, word) for root in group}
            if self.clash(inner):
                continue
            place = words.index(word) if word in words else 0
            rows = dict(row[2]).get(word, ())
            ends.append((inner, self.behind(rows, (*path, place), inner, facts)))
        if not ends:
            return facts
        return {
            fact for _, end in ends for fact in end
            if all(fact in other or self.clash(self.clocks[fact[1]], inner) for inner, other in ends)
        }

    def cover(self, some, clock):
        roots = {root for root, _ in clock}
        for _, group in self.ifs:
            roots |= group
        roots = sorted(roots)
        for told in itertools.product(*[self.types[root][1] for root in roots]):
            words = set(zip(roots, told))
            given = dict(words)
            if all(not c <= words or len({given[root] for root in group}) == 1 for c, group in self.ifs):
                if clock <= words and not any(c <= words for c in some):
                    return False
        return True

    def at(self, words, name):
        return [conditions for word, other, conditions in self.gone if word in words and other == name]

    def fault(self, rows):
        """What judge_rows tells of rows in form."""
        self.gone, self.ifs = [], []
        try:
            self.facts = self.behind(rows, (), frozenset(), set())
        except Wrong as wrong:
            return ("row", wrong.args[0])
        for output in self.program.main()[2]:
            if not self.cover(self.at(["tell"], output), self.clocks[output]):
                return ("told", output)
        for held, right in self.rights.items():
            if right[0] == "held":
                if not self.cover(self.at(["store", "renew"], held), self.clocks[held]):
                    return ("kept", held)
                for cond, word in right[5]:
                    if not self.cover(self.at(["renew"], held), self.clocks[cond] | {(self.root(cond), word)}):
                        return ("kept", held)
        return None
