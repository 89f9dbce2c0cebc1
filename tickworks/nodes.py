"""Programs, their nodes, and the types of their streams."""

from tickworks.errors import UnknownName
from tickworks.expansion import check_size, rows_of
from tickworks.forms import check_forms
from tickworks.kinds import kinds_of
from tickworks.names import check_names


class Program:
    """A program of one to four nodes, of which the last one is main."""

    def __init__(self, nodes):
        check_forms(nodes)
        self._nodes = tuple(nodes)
        check_names(self._nodes)
        self._kinds = kinds_of(self._nodes)
        self._rows = tuple(rows_of(self._nodes, self._kinds))
        check_size(self._nodes, self._rows)

    def __eq__(self, other):
        return isinstance(other, Program) and self._nodes == other._nodes

    def __len__(self):
        return len(self._nodes)

    def nodes(self):
        """The list of the nodes."""
        return list(self._nodes)

    def node_at(self, name):
        """The node of a name; UnknownName for any value that is none."""
        for node in self._nodes:
            if node[0] == name:
                return node
        raise UnknownName(name)

    def main(self):
        """The main node."""
        return self._nodes[-1]

    def streams_at(self, name):
        """The list of the pairs (stream, type) of the node of a name."""
        node = self.node_at(name)
        return list(self._kinds[node[0]].items())

    def written_rows(self):
        """The tuple of the triples (stream, right, type) of main with all calls put in."""
        return self._rows


def type_at(program, node, stream):
    """The type of a node's stream, both any values; UnknownName for what is none."""
    for word, kind in program.streams_at(node):
        if word == stream:
            return kind
    raise UnknownName(stream)
