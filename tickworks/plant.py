"""A plant: a program that runs, and is changed while it runs, moment by moment."""

from tickworks.branches import check_moment
from tickworks.deeds import as_logged, moment_behind
from tickworks.errors import BadName, NothingDone, TooMany, UnknownName
from tickworks.faces import swift_program
from tickworks.records import Record
from tickworks.rounds import first_state
from tickworks.words import is_word

MOST_MOMENTS = 200
MOST_BRANCHES = 6
FIRST_BRANCH = "main"


class Plant:
    """Moments, each made by a deed out of an elder one, and branches that lead through them.

    All that a plant tells is in its record; each call that changes the plant gives it another one, at
    its end, so a call that raises an error changes nothing.
    """

    def __init__(self, nodes):
        program = swift_program(nodes)
        moment = (program, first_state(program), None)
        self.record = Record((moment,), (), ((FIRST_BRANCH, (0,), 0),), FIRST_BRANCH)

    def __eq__(self, other):
        return isinstance(other, Plant) and self.record.in_common() == other.record.in_common()

    def __len__(self):
        return len(self.record.moments)

    def do(self, deed):
        """Does any value as a deed; the number of the new moment."""
        moment = moment_behind(self.now(), deed)
        number = len(self.record.moments)
        if number == MOST_MOMENTS:
            raise TooMany()
        self.record = self.record.grown(moment, as_logged(deed))
        return number

    def undo(self):
        """Goes one place back in the trail; the number gone to."""
        return self.move(-1)

    def redo(self):
        """Goes one place on in the trail; the number gone to."""
        return self.move(1)

    def move(self, places):
        """Goes so many places on in the trail; the number gone to, or NothingDone."""
        shifted = self.record.shifted(places)
        if shifted is None:
            raise NothingDone()
        self.record = shifted
        return self.present()

    def branch(self, name):
        """Makes a branch of this name, any value, at the present moment."""
        if not is_word(name) or name in self.branches():
            raise BadName(name)
        if len(self.record.twigs) == MOST_BRANCHES:
            raise TooMany()
        self.record = self.record.branched(name)

    def go(self, name):
        """Goes to the branch of this name, any value; the number at which it stands."""
        self.twig(name)
        self.record = self.record.standing_in(name)
        return self.present()

    def present(self):
        """The number of the moment at which the plant stands."""
        return self.record.present()

    def here(self):
        """The name of the branch in which the plant stands."""
        return self.record.stand

    def branches(self):
        """The list of the branches' names, in the order in which they were made."""
        return [name for name, _, _ in self.record.twigs]

    def twig(self, name):
        """The branch of this name, any value; UnknownName if there is none."""
        for twig in self.record.twigs:
            if twig[0] == name:
                return twig
        raise UnknownName(name)

    def trail(self, name):
        """The list of the numbers of the branch of this name, any value."""
        return list(self.twig(name)[1])

    def mark(self, name):
        """The place at which the branch of this name, any value, stands in its trail."""
        return self.twig(name)[2]

    def log(self):
        """The list of the pairs (elder, deed) of the moments from 1 on."""
        return list(self.record.lines)

    def moment(self, number):
        """(program, state, told) of the moment with this number, any value."""
        check_moment(self, number)
        return self.record.moments[number]

    def now(self):
        """(program, state, told) of the present moment."""
        return self.moment(self.present())

    def twin(self):
        """An equal plant that goes its own way from there on."""
        other = Plant(self.record.moments[0][0].nodes())
        other.record = self.record
        return other
