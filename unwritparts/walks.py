"""Walks: what a knot needs, makes and comes to, by its sense and what it is told (promises 7 to 9)."""

from unwritparts.runs import Run, Walking, names_for

# A walk that is told what its knots come to has as many steps as that leads to.
NO_MOST = 1000000000000000


class Walk:
    """What was seen of a walk: the knots needed, how many steps, the knots made, and what it comes to."""

    def __init__(self, needs, steps, made, end):
        self.needs = list(needs)
        self.steps = steps
        self.made = list(made)
        self.end = end


class Told(Run):
    """A walk that is told, in order, what the knots that it needs come to, as far as it goes by that.

    Its sense stands in senses, and there those of the knots that it makes are put.
    """

    def __init__(self, knot, senses, gots, bodies):
        Run.__init__(self, NO_MOST, {}, bodies)
        self.needs = []
        self._gots = gots
        self.walk = Walking(knot, senses[knot], senses)
        self.go(self.walk)

    def follow(self, walk):
        """The walk itself, as long as it needs a knot and what this comes to is told."""
        if walk.end is not None:
            return None
        self.needs.append(walk.need)
        if len(self.needs) > len(self._gots):
            return None
        walk.take(self._gots[len(self.needs) - 1])
        return walk


def walked(knot, term, names, gots):
    """The Walk of a knot with this sense, told in gots what the knots that it needs come to."""
    senses = {knot: (term.tree(), dict(names))}
    told = Told(knot, senses, gots, {})
    made = []
    for number in range(1, told.walk.made + 1):
        name = f"{knot}.{number}"
        tree, stand = senses[name]
        made.append((name, tree.text, names_for(tree, stand)))
    return Walk(told.needs, told.walk.steps, made, told.walk.end)
