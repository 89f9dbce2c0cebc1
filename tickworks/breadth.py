"""Walks in breadth: things that are met are numbered, and left by each input row in their order."""

from tickworks.errors import TooMany


class Breadth:
    """The things that a walk met, in the order of their numbers, and the runs by which they were met first."""

    def __init__(self, first, most):
        self.most = most
        self.things = [first]
        self._ways = {first: None}

    def meet(self, thing, ahead, row):
        """Numbers a thing that a row led to from the one ahead, if it was not met yet."""
        if thing in self._ways:
            return
        if len(self.things) == self.most:
            raise TooMany()
        self._ways[thing] = (ahead, row)
        self.things.append(thing)

    def run_to(self, thing):
        """The tuple of the rows by which a thing was met first."""
        rows = []
        way = self._ways[thing]
        while way is not None:
            rows.append(way[1])
            way = self._ways[way[0]]
        return tuple(rows[::-1])


def walked(first, rows, most, leave):
    """A pair: the list of all things that are met, and None; or a run, and what ended the walk at its last row.

    leave is handed a thing and a row, and tells a pair: what ends the walk, or None, and the thing
    that the row leads to, or None.
    """
    breadth = Breadth(first, most)
    number = 0
    while number < len(breadth.things):
        thing = breadth.things[number]
        for row in rows:
            end, behind = leave(thing, row)
            if end is not None:
                return breadth.run_to(thing) + (row,), end
            if behind is not None:
                breadth.meet(behind, thing, row)
        number += 1
    return breadth.things, None
