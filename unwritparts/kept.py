"""What is kept of readings: the last walk of each knot, and how many steps were done (promises 16 and 17)."""

from unwritparts.readings import Space
from unwritparts.runs import Walking, names_for


class KeptWalking(Walking):
    """A walk that is kept: with a log, a row for each knot that it took, and how it stood there."""

    def __init__(self, knot, sense, senses):
        Walking.__init__(self, knot, sense, senses)
        self.sense = sense
        self.log = []
        # How many rows of the log a telling has gone over, None where nothing is left to go over, and how many of the
        # steps it has counted so far.
        self.at = None
        self.counted = 0

    def take(self, got):
        """Take what the knot comes to that it needs now, and put down how all stands here."""
        self.log.append((self.need, got, self.steps, self.made, self.place))
        self.head = got
        self.need = None

    def begin_again(self):
        """Have all that was done ahead, to be gone over."""
        self.at = 0
        self.counted = 0

    def go_back(self):
        """Stand where the knot was needed that is gone over now: what was done behind that is forgotten."""
        self.need, _, self.steps, self.made, self.place = self.log[self.at]
        del self.log[self.at:]
        self.end = None

    def twin(self, senses):
        """A walk of its own that stands as this one."""
        other = KeptWalking(self.knot, self.sense, senses)
        other.log = list(self.log)
        other.place = self.place
        other.head = self.head
        other.need = self.need
        other.steps = self.steps
        other.made = self.made
        other.end = self.end
        return other


class KeptSpace(Space):
    """Knots by their names, with their last walks."""

    def __init__(self):
        Space.__init__(self)
        self._walks = {}

    def begin(self, knot, sense):
        """The last walk of a knot, to be gone over, where it was of this sense; else a new one."""
        walk = self._walks.get(knot)
        if walk is not None and is_same_sense(walk.sense, sense):
            walk.begin_again()
        else:
            walk = KeptWalking(knot, sense, self.senses)
            self._walks[knot] = walk
        return walk

    def twin(self):
        """The same knots with walks of their own, so that neither changes the other."""
        other = KeptSpace()
        other.senses = dict(self.senses)
        other._walks = {knot: walk.twin(other.senses) for knot, walk in self._walks.items()}
        return other


class Kept:
    """The last walks of knots: those that begin with `?` for each term told, by its text, the others for all."""

    def __init__(self):
        self.steps = 0
        self.space = KeptSpace()
        # Which tree is read of a def's text hangs on the text alone, so this is no more than a short cut.
        self.bodies = {}
        self._asked = {}

    def asked(self, text):
        """The knots that begin with `?` of the term with this text."""
        if text not in self._asked:
            self._asked[text] = KeptSpace()
        return self._asked[text]

    def twin(self):
        """What is kept here, so that neither changes the other."""
        other = Kept()
        other.steps = self.steps
        other.space = self.space.twin()
        other.bodies = self.bodies
        other._asked = {text: space.twin() for text, space in self._asked.items()}
        return other


def is_same_sense(one, other):
    """Whether two senses have the same text and the same names; more than the free ones may stand there."""
    tree, names = one
    other_tree, other_names = other
    return tree.text == other_tree.text and names_for(tree, names) == names_for(tree, other_names)
