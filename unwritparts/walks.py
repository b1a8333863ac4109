"""Walks: what a knot needs, makes and comes to, by its sense and what it is told (promises 7 to 9)."""

from unwritparts.trees import tree_of

# A number beyond 10 ** 12, or below its negative, is a fault.
GREATEST = 1000000000000

# What the term must come to that a term of this form reads.
MUST = {
    "sum": "number",
    "less": "number",
    "times": "number",
    "below": "number",
    "if": "number",
    "first": "pair",
    "second": "pair",
    "call": "def",
}
NO_HEADS = ("fault", "ring", "waits")

# The place of the one that waits innermost, where none does.
NONE_WAITS = -1


class Walk:
    """What was seen of a walk: the knots needed, how many steps, the knots made, and what it comes to."""

    def __init__(self, needs, steps, made, end):
        self.needs = list(needs)
        self.steps = steps
        self.made = list(made)
        self.end = end


class Walking:
    """A walk on its way: between calls it has a term ahead, or lacks what a needed knot comes to, or is at its end.

    Terms may wait within one another thousands deep, so those that wait stand in a list and not in calls. That list
    only grows, each of its rows telling which one waits behind it: so a mark at each need is all that it takes to go
    back to this need.
    """

    def __init__(self, knot, tree, names, bodies):
        self.knot = knot
        self.sense = (tree.text, names)
        self.needs = []
        self.gots = []
        self.steps = 0
        self.made = []
        self.end = None
        self.ahead = (tree, dict(names))
        self._head = None
        self._waiting = []
        self._innermost = NONE_WAITS
        self._marks = []
        self._tree = tree
        self._bodies = bodies

    def step(self):
        """Begin the term ahead, one step, and go on as far as that leads without another one."""
        self._begin()
        self._look_on()

    def take(self, got):
        """Take what the knot comes to that was needed last, and go on as far as that leads without a step."""
        self.gots.append(got)
        if got[0] in NO_HEADS:
            self.end = got
        else:
            self._head = got
            self._look_on()

    def steps_ahead(self, at):
        """How many steps stand ahead of this one of its needs; behind the last of them, how many it has done."""
        if at < len(self._marks):
            return self._marks[at][0]
        return self.steps

    def go_back(self, at):
        """Stand where this one of its needs was needed: what was done behind it is forgotten."""
        steps, made, waiting, innermost = self._marks[at]
        self.needs = self.needs[:at + 1]
        self.gots = self.gots[:at]
        self.steps = steps
        self.made = self.made[:made]
        self.end = None
        self.ahead = None
        self._waiting = self._waiting[:waiting]
        self._innermost = innermost
        self._marks = self._marks[:at + 1]

    def twin(self):
        """A walk of its own that stands as this one."""
        other = Walking(self.knot, self._tree, self.sense[1], self._bodies)
        other.needs = list(self.needs)
        other.gots = list(self.gots)
        other.steps = self.steps
        other.made = list(self.made)
        other.end = self.end
        other.ahead = self.ahead
        other._waiting = list(self._waiting)
        other._innermost = self._innermost
        other._marks = list(self._marks)
        return other

    def _begin(self):
        """Begin the term ahead: one step."""
        tree, names = self.ahead
        self.ahead = None
        self.steps += 1
        if tree.kind == "number":
            self._head = ("number", int(tree.text))
        elif tree.kind == "name":
            self._need(names[tree.text])
        elif tree.kind == "part":
            self._need(tree.text)
        elif tree.kind == "pair":
            left = self._make(tree.within[0], names)
            self._head = ("pair", left, self._make(tree.within[1], names))
        elif tree.kind == "def":
            self._head = ("def", tree.small, tree.within[0].text, names_for(tree, names))
        elif tree.kind == "let":
            knot = self._make(tree.within[0], names)
            self.ahead = (tree.within[1], {**names, tree.small: knot})
        else:
            self._wait(tree, names, None, tree.within[0])

    def _look_on(self):
        """Look at the head that was come to, and at the next one, as long as no step stands between."""
        while self._head is not None:
            self._look()

    def _look(self):
        """Look at the head that the term just read came to, and go on with the one that waits for it."""
        head = self._head
        self._head = None
        if self._innermost == NONE_WAITS:
            self.end = head
            return
        tree, names, left, behind = self._waiting[self._innermost]
        self._innermost = behind
        if head[0] != MUST[tree.kind]:
            self.end = ("fault", MUST[tree.kind], self.knot)
        elif tree.kind == "first":
            self._need(head[1])
        elif tree.kind == "second":
            self._need(head[2])
        elif tree.kind == "call":
            self._call(tree.within[1], names, head)
        elif tree.kind == "if":
            self.ahead = (tree.within[2] if head[1] == 0 else tree.within[1], names)
        elif left is None:
            self._wait(tree, names, head[1], tree.within[1])
        else:
            self._reckon(tree.kind, left, head[1])

    def _wait(self, tree, names, left, inner):
        """Let a tree wait for what an inner one comes to, with the number that its first one came to, if it did."""
        self._waiting.append((tree, names, left, self._innermost))
        self._innermost = len(self._waiting) - 1
        self.ahead = (inner, names)

    def _need(self, knot):
        """Need a knot, and mark how all stands here."""
        self.needs.append(knot)
        self._marks.append((self.steps, len(self.made), len(self._waiting), self._innermost))

    def _make(self, tree, names):
        """Make a knot of a term and what its free names stand for here; its name."""
        knot = f"{self.knot}.{len(self.made) + 1}"
        self.made.append((knot, tree, names_for(tree, names)))
        return knot

    def _call(self, tree, names, head):
        """Read a def's term, its small name standing for a knot made of the term called with."""
        _, small, text, stand = head
        knot = self._make(tree, names)
        if text not in self._bodies:
            self._bodies[text] = tree_of(text)
        self.ahead = (self._bodies[text], {**dict(stand), small: knot})

    def _reckon(self, kind, left, right):
        """Come to the number of two numbers, or to the fault "great"."""
        number = reckoned(kind, left, right)
        if abs(number) > GREATEST:
            self.end = ("fault", "great", self.knot)
        else:
            self._head = ("number", number)


def names_for(tree, names):
    """What the free names of a tree stand for, as in a sense."""
    return tuple([(small, names[small]) for small in tree.free])


def reckoned(kind, left, right):
    """The sum, difference or product of two numbers, or 1 or 0 of below."""
    if kind == "sum":
        return left + right
    if kind == "less":
        return left - right
    if kind == "times":
        return left * right
    return 1 if left < right else 0


def walk_on(walking):
    """Do the steps of a walk up to its end, or to a knot that it needs."""
    while walking.ahead is not None:
        walking.step()


def walking_by(knot, tree, names, gots, bodies):
    """The walk of a knot with this sense, told in gots what the knots that it needs come to, as far as it goes."""
    walking = Walking(knot, tree, names, bodies)
    walk_on(walking)
    for got in gots:
        if walking.end is not None:
            break
        walking.take(got)
        walk_on(walking)
    return walking


def walked(knot, term, names, gots):
    """The Walk of a knot with this sense, told in gots what the knots that it needs come to."""
    walking = walking_by(knot, term.tree(), names, gots, {})
    made = [(name, tree.text, stand) for name, tree, stand in walking.made]
    return Walk(walking.needs, walking.steps, made, walking.end)
