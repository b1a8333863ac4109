"""Readings: a term told by its parts, by need, nothing of what is kept done again (promises 10 to 12, 16, 17)."""

from unwritparts.bottoms import Bottom
from unwritparts.kept import ASKED, Kept
from unwritparts.tellings import Telling

OPEN = "open"
# It stands in the names of knots that are made, and in no others.
POINT = "."


class Going:
    """A walk as far as one telling has gone over it: how many of its needs, and how many of its steps it counted."""

    def __init__(self, walking):
        self.walking = walking
        self.at = 0
        self.counted = 0

    def hand(self, got):
        """Hand it what the knot comes to that it needs now.

        Where that is what it came to before, nothing is done. Else all that stood behind is forgotten at once, even
        where no step is left to do what stands there now.
        """
        walking = self.walking
        if self.at == len(walking.gots):
            walking.take(got)
        elif walking.gots[self.at] != got:
            walking.go_back(self.at)
            walking.take(got)
        self.at += 1


class Reading:
    """One telling on its way.

    Knots may need one another thousands deep, so those that are being walked stand in a list, the chain: each one
    needs the next.
    """

    def __init__(self, parts, term, most, kept):
        self._parts = parts
        self._term = term
        self._text = str(term)
        self._most = most
        self._kept = kept
        self._steps = 0
        # The walks of the knots that were needed, in the order in which they first were.
        self._walks = []
        self._known = []
        self._ends = {}
        self._chain = []
        self._places = {}

    def telling(self):
        """Read the term to the bottom, and tell it."""
        kind, what = self._to_the_bottom()
        if kind == OPEN:
            return Telling(OPEN, None, self._most)
        return Telling(kind, what, self._steps, known=self._known)

    def rows(self):
        """What was read: tuples (knot, gots, end), one for each knot needed, as papers have them."""
        return [(walk.knot, tuple(zip(walk.needs, walk.gots)), walk.end) for walk in self._walks]

    def _to_the_bottom(self):
        """The kind and the what of the telling."""
        bottom = Bottom()
        while bottom.told is None:
            end = self._at_the_bottom(bottom.knot)
            if end is None:
                return (OPEN, None)
            bottom.take(end)
        return bottom.told

    def _at_the_bottom(self, knot):
        """What a knot that is read to the bottom comes to, one step for that; None where it is open."""
        if self._steps >= self._most:
            return None
        self._steps += 1
        got = self._need(knot)
        while self._chain:
            going = self._chain[-1]
            if not self._count(going):
                return None
            if going.at < len(going.walking.needs):
                got = self._need(going.walking.needs[going.at])
            else:
                got = self._leave(going)
            if got is not None and self._chain:
                self._chain[-1].hand(got)
        return got

    def _need(self, knot):
        """What a knot that is needed comes to; None where it is to be walked first: then it's the last of the chain."""
        if knot in self._ends:
            return self._ends[knot]
        if knot in self._places:
            return self._ring(self._places[knot])
        if knot != ASKED and POINT not in knot:
            if knot not in self._parts:
                return ("waits", knot)
            self._known.append(knot)
        walking = self._walk_of(knot)
        self._places[knot] = len(self._chain)
        self._walks.append(walking)
        self._chain.append(Going(walking))
        return None

    def _ring(self, place):
        """The ring of the knots of the chain from this place on, told from the least name on."""
        knots = [going.walking.knot for going in self._chain[place:]]
        least = knots.index(min(knots))
        return ("ring", tuple(knots[least:] + knots[:least]))

    def _walk_of(self, knot):
        """The walk of a knot that goes on here: the last one, or a new one where there is none of its sense."""
        tree, names = self._sense(knot)
        walking = self._kept.walk_of(self._text, knot)
        if walking is None or walking.sense != (tree.text, names):
            walking = self._kept.begin(self._text, knot, tree, names)
        return walking

    def _sense(self, knot):
        """The tree and the names of a knot; its maker was walked, or gone over, in this telling up to there."""
        if knot == ASKED:
            return (self._term.tree(), ())
        if POINT not in knot:
            return (self._parts[knot].tree(), ())
        maker, _, number = knot.rpartition(POINT)
        _, tree, names = self._kept.walk_of(self._text, maker).made[int(number) - 1]
        return (tree, names)

    def _count(self, going):
        """Count the steps of a walk up to what it needs next, or to its end, and do those that aren't done yet.

        Told is whether they come within most. Those that were done before count first: they stand ahead.
        """
        walking = going.walking
        done = walking.steps_ahead(going.at)
        if self._steps + done - going.counted > self._most:
            return False
        self._steps += done - going.counted
        going.counted = done
        if going.at < len(walking.needs):
            return True
        while walking.ahead is not None:
            if self._steps >= self._most:
                return False
            walking.step()
            going.counted += 1
            self._steps += 1
            self._kept.steps += 1
        return True

    def _leave(self, going):
        """Take the last one of the chain from it, which is at its end; that end."""
        walking = going.walking
        self._chain.pop()
        del self._places[walking.knot]
        self._ends[walking.knot] = walking.end
        return walking.end


def read_anew(parts, term, most):
    """The telling of a term read from the beginning, nothing kept."""
    return Reading(parts, term, most, Kept()).telling()
