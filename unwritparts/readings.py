"""Readings: a term told by its parts, by need, from the beginning (promises 10 to 12)."""

from unwritparts.bottoms import Bottom
from unwritparts.runs import ASKED, Run, Walking
from unwritparts.tellings import Telling

OPEN = "open"


class Space:
    """Knots by their names: the senses of those that were made, and the beginning of their walks."""

    def __init__(self):
        self.senses = {}

    def begin(self, knot, sense):
        """The walk of a knot of this sense, with no step done."""
        return Walking(knot, sense, self.senses)


class Reading(Run):
    """One telling on its way.

    Knots may need one another thousands deep, so those that are being walked stand in a list, the chain: each one
    needs the next. asked and space have the knots that begin with `?`, and the others.
    """

    def __init__(self, parts, term, most, asked, space):
        # Walks may take by themselves whatever was come to here.
        self.ends = {}
        Run.__init__(self, most, self.ends, {})
        self._parts = parts
        asked.senses[ASKED] = (term.tree(), {})
        self._asked = asked
        self._space = space
        # The walks of the knots that were needed, by their names, in the order in which they first were.
        self.begun = {}
        self.chain = []
        # How many of the steps counted here were done by no walk.
        self._undone = 0

    def telling(self):
        """Read the term to the bottom, and tell it."""
        kind, what = self._to_the_bottom()
        if kind == OPEN:
            return Telling(OPEN, None, self.most)
        return Telling(kind, what, self.steps, known=[knot for knot in self.begun if knot in self._parts])

    def done(self):
        """How many steps of walks were done here."""
        return self.steps - self._undone

    def follow(self, walk):
        """The walk to go on with behind one that is at its end, or needs a knot, or else is out of steps."""
        chain = self.chain
        if walk.end is not None:
            chain.pop()
            self.ends[walk.knot] = walk.end
            if not chain:
                return None
            chain[-1].take(walk.end)
        elif walk.need is None:
            return None
        else:
            got = self.begin(walk.need)
            if got is not None:
                walk.take(got)
        return chain[-1]

    def start(self, knot):
        """Do all that is to be done for a knot that is read to the bottom."""
        self.begin(knot)
        self.go(self.chain[-1])

    def begin(self, knot):
        """Put the walk of a knot that is needed for the first time behind the chain, and tell None.

        Where it isn't to be walked: what it comes to, for a part that isn't written, or for a knot of the chain.
        """
        if knot in self.begun:
            return self._ring(knot)
        space = self._asked if knot[0] == ASKED else self._space
        sense = space.senses.get(knot)
        if sense is None:
            if knot not in self._parts:
                return ("waits", knot)
            sense = (self._parts[knot].tree(), {})
        walk = space.begin(knot, sense)
        self.begun[knot] = walk
        self.chain.append(walk)
        return None

    def count(self, steps):
        """Count steps that no walk does here; whether they come within most."""
        if self.steps + steps > self.most:
            return False
        self.steps += steps
        self._undone += steps
        return True

    def _ring(self, knot):
        """The ring of the knots of the chain from this one on, told from the least name on."""
        knots = [walk.knot for walk in self.chain]
        knots = knots[knots.index(knot):]
        least = knots.index(min(knots))
        return ("ring", tuple(knots[least:] + knots[:least]))

    def _to_the_bottom(self):
        """The kind and the what of the telling."""
        bottom = Bottom()
        while bottom.told is None:
            if not self.count(1):
                return (OPEN, None)
            if bottom.knot not in self.ends:
                self.start(bottom.knot)
            if bottom.knot not in self.ends:
                return (OPEN, None)
            bottom.take(self.ends[bottom.knot])
        return bottom.told


def read_anew(parts, term, most):
    """The telling of a term read from the beginning, nothing kept."""
    space = Space()
    return Reading(parts, term, most, space, space).telling()
