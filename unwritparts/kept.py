"""What is kept of readings: the last walk of each knot, and how many steps were done (promises 16 and 17)."""

from unwritparts.walks import Walking

ASKED = "?"


class Kept:
    """The last walks of knots: those that begin with `?` for each term told, by its text, the others for all."""

    def __init__(self):
        self.steps = 0
        self._walks = {}
        self._asked = {}
        # Which tree is read of a def's text hangs on the text alone, so this is no more than a short cut.
        self._bodies = {}

    def walk_of(self, text, knot):
        """The last walk of a knot, in a telling of the term with this text; None where there is none."""
        return self._walks_for(text, knot).get(knot)

    def begin(self, text, knot, tree, names):
        """Keep a walk of this sense as the knot's last one, with no step done; that walk."""
        walks = self._walks_for(text, knot)
        walking = Walking(knot, tree, names, self._bodies)
        walks[knot] = walking
        return walking

    def twin(self):
        """What is kept here, each walk a one of its own, so that neither changes the other."""
        other = Kept()
        other.steps = self.steps
        other._walks = twin_walks(self._walks)
        other._asked = {text: twin_walks(walks) for text, walks in self._asked.items()}
        other._bodies = self._bodies
        return other

    def _walks_for(self, text, knot):
        """The last walks among which this knot's stands."""
        if not knot.startswith(ASKED):
            return self._walks
        return self._asked.setdefault(text, {})


def twin_walks(walks):
    """Twins of walks, by their knots."""
    return {knot: walking.twin() for knot, walking in walks.items()}
