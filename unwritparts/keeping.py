"""Keeping: a telling that does nothing again of what is kept (promises 16 and 17)."""

from unwritparts.readings import Reading


class Keeping(Reading):
    """One telling on its way, over what is kept."""

    def __init__(self, parts, term, most, kept):
        Reading.__init__(self, parts, term, most, kept.asked(str(term)), kept.space)
        self.bodies = kept.bodies
        # A walk takes nothing by itself here: it has to put down how it stands wherever it needs a knot.
        self.known = {}

    def rows(self):
        """What was read: tuples (knot, gots, end), one for each knot needed, as papers have them."""
        rows = []
        for knot, walk in self.begun.items():
            gots = [(needed, got) for needed, got, _, _, _ in walk.log]
            rows.append((knot, tuple(gots), walk.end))
        return rows

    def start(self, knot):
        """Do all that is to be done for a knot that is read to the bottom."""
        self.begin(knot)
        self.go(self._next())

    def follow(self, walk):
        """The walk to go on with behind one that is at its end, or needs a knot, or else is out of steps."""
        if walk.end is not None:
            self._leave(walk)
        elif walk.need is None:
            return None
        return self._next()

    def _next(self):
        """The last walk of the chain, as soon as there are steps to be done there; None where it is open, or all done.

        What is kept of it is gone over first, and what it needs is put behind the chain.
        """
        while self.chain:
            walk = self.chain[-1]
            if walk.at is not None:
                if not self._go_over(walk):
                    return None
            elif walk.need is None:
                return walk
            else:
                got = self._got(walk.need)
                if got is not None:
                    walk.take(got)
        return None

    def _go_over(self, walk):
        """Go over what is kept of a walk, up to where it needs a knot that is to be walked; whether within most.

        Where a knot comes to something else than it did, all that stood behind is forgotten at once, even where no
        step is left to do what stands there now.
        """
        while walk.at < len(walk.log):
            knot, got, steps, _, _ = walk.log[walk.at]
            if not self.count(steps - walk.counted):
                return False
            walk.counted = steps
            now = self._got(knot)
            if now is None:
                return True
            if now == got:
                walk.at += 1
            else:
                walk.go_back()
        if not self.count(walk.steps - walk.counted):
            return False
        walk.at = None
        if walk.end is not None:
            self._leave(walk)
        return True

    def _got(self, knot):
        """What a knot that is needed comes to; None where it is to be walked first: then it stands behind the chain."""
        if knot in self.ends:
            return self.ends[knot]
        return self.begin(knot)

    def _leave(self, walk):
        """Take the last one of the chain from it, which is at its end."""
        self.chain.pop()
        self.ends[walk.knot] = walk.end
