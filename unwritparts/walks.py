"""Walks: what a knot needs, makes and comes to, by its sense and what it is told (promises 7 to 9)."""

from unwritparts.trees import tree_of

# A number beyond 10 ** 12, or below its negative, is a fault.
GREATEST = 1000000000000

# What the term must come to that a term of this form reads.
MUST = {
    "sum": "number",
    "less": "number",
    "times": "number",
    "below": "number",
    "if": "number",
    "first": "pair",
    "second": "pair",
    "call": "def",
}
NO_HEADS = ("fault", "ring", "waits")


class Walk:
    """What was seen of a walk: the knots needed, how many steps, the knots made, and what it comes to."""

    def __init__(self, needs, steps, made, end):
        self.needs = list(needs)
        self.steps = steps
        self.made = list(made)
        self.end = end


class Walking:
    """A walk on its way: it goes until it ends or needs a knot, and goes on when it takes what that came to.

    Terms may wait within one another thousands deep, so those that wait stand in a list and not in calls.
    """

    def __init__(self, knot, tree, names):
        self.knot = knot
        self.needs = []
        self.steps = 0
        self.made = []
        self.end = None
        self._ahead = (tree, dict(names))
        self._head = None
        self._waiting = []
        self._bodies = {}

    def go(self):
        """Go on as far as what it was told reaches."""
        while self.end is None:
            if self._ahead is not None:
                self._begin()
            elif self._head is not None:
                self._look()
            else:
                return

    def take(self, got):
        """Take what the knot comes to that was needed last."""
        if got[0] in NO_HEADS:
            self.end = got
        else:
            self._head = got

    def _begin(self):
        """Begin the term ahead: one step."""
        tree, names = self._ahead
        self._ahead = None
        self.steps += 1
        if tree.kind == "number":
            self._head = ("number", int(tree.text))
        elif tree.kind == "name":
            self.needs.append(names[tree.text])
        elif tree.kind == "part":
            self.needs.append(tree.text)
        elif tree.kind == "pair":
            left = self._make(tree.within[0], names)
            self._head = ("pair", left, self._make(tree.within[1], names))
        elif tree.kind == "def":
            self._head = ("def", tree.small, tree.within[0].text, names_for(tree, names))
        elif tree.kind == "let":
            knot = self._make(tree.within[0], names)
            self._ahead = (tree.within[1], {**names, tree.small: knot})
        else:
            self._waiting.append((tree, names, None))
            self._ahead = (tree.within[0], names)

    def _look(self):
        """Look at the head that the term just read came to, and go on with the one that waits for it."""
        head = self._head
        self._head = None
        if not self._waiting:
            self.end = head
            return
        tree, names, left = self._waiting.pop()
        if head[0] != MUST[tree.kind]:
            self.end = ("fault", MUST[tree.kind], self.knot)
        elif tree.kind == "first":
            self.needs.append(head[1])
        elif tree.kind == "second":
            self.needs.append(head[2])
        elif tree.kind == "call":
            self._call(tree.within[1], names, head)
        elif tree.kind == "if":
            self._ahead = (tree.within[2] if head[1] == 0 else tree.within[1], names)
        elif left is None:
            self._waiting.append((tree, names, head[1]))
            self._ahead = (tree.within[1], names)
        else:
            self._reckon(tree.kind, left, head[1])

    def _make(self, tree, names):
        """Make a knot of a term and what its free names stand for here; its name."""
        knot = f"{self.knot}.{len(self.made) + 1}"
        self.made.append((knot, tree.text, names_for(tree, names)))
        return knot

    def _call(self, tree, names, head):
        """Read a def's term, its small name standing for a knot made of the term called with."""
        _, small, text, stand = head
        knot = self._make(tree, names)
        if text not in self._bodies:
            self._bodies[text] = tree_of(text)
        self._ahead = (self._bodies[text], {**dict(stand), small: knot})

    def _reckon(self, kind, left, right):
        """Come to the number of two numbers, or to the fault "great"."""
        number = reckoned(kind, left, right)
        if abs(number) > GREATEST:
            self.end = ("fault", "great", self.knot)
        else:
            self._head = ("number", number)


def names_for(tree, names):
    """What the free names of a tree stand for, as in a sense."""
    return tuple([(small, names[small]) for small in tree.free])


def reckoned(kind, left, right):
    """The sum, difference or product of two numbers, or 1 or 0 of below."""
    if kind == "sum":
        return left + right
    if kind == "less":
        return left - right
    if kind == "times":
        return left * right
    return 1 if left < right else 0


def walked(knot, term, names, gots):
    """The Walk of a knot with this sense, told in gots what the knots that it needs come to."""
    walking = Walking(knot, term.tree(), names)
    walking.go()
    for got in gots:
        if walking.end is not None:
            break
        walking.take(got)
        walking.go()
    return Walk(walking.needs, walking.steps, walking.made, walking.end)
