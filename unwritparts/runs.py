"""Runs: the steps of walks, one walk going on where another one needs it (promises 8 and 9)."""

from unwritparts.codes import CALL, END, FORM, HEAD, IF, LEFT, NEED, RIGHT, code_of, last_code
from unwritparts.trees import tree_of

# The knot of a term that is told.
ASKED = "?"
# It stands in the names of knots that are made, and in no others.
POINT = "."
# A number beyond 10 ** 12, or below its negative, is a fault.
GREATEST = 1000000000000
NO_HEADS = ("fault", "ring", "waits")


class Walking:
    """A walk on its way.

    Its place is where it goes on: the code ahead, what the small names stand for there, and what waits for that, as
    (number, what waits behind it) or (code, names, what waits behind it). Terms may wait within one another thousands
    deep, so they don't wait in calls; and a place is never changed, so it can be put down and gone back to.
    """

    def __init__(self, knot, sense, senses):
        tree, names = sense
        self.knot = knot
        # Where the senses of the knots that it makes are put.
        self.senses = senses
        self.place = (code_of(tree), names, None)
        # The head that it goes on with, and the knot that it needs now.
        self.head = None
        self.need = None
        self.steps = 0
        self.made = 0
        self.end = None

    def make(self, tree, names):
        """Make a knot of a term and what its free names stand for here; its name."""
        self.made += 1
        knot = f"{self.knot}.{self.made}"
        self.senses[knot] = (tree, names)
        return knot

    def take(self, got):
        """Take what the knot comes to that it needs now."""
        self.head = got
        self.need = None


class Run:
    """Walks done in turn, each one up to where it needs a knot that isn't known, or to its end.

    known: what knots come to, by their names, as far as walks take it without a word; bodies: trees of defs' texts.
    """

    def __init__(self, most, known, bodies):
        self.most = most
        self.known = known
        self.bodies = bodies
        self.steps = 0

    def follow(self, walk):
        """The walk to go on with behind one that is at its end, or needs a knot, or else is out of steps."""
        return None

    def go(self, walk):
        """Do the steps from this walk on, as long as there is one to go on with."""
        while walk is not None:
            self._do(walk)
            walk = self.follow(walk)

    def _do(self, walk):
        """Do the steps of a walk up to its end, or to where it needs a knot that isn't known, or to most."""
        (code, names, waiting), head, steps = walk.place, walk.head, self.steps
        known, most, ahead = self.known, self.most, steps - walk.steps
        while True:
            (deed, much, what, code), knot = code, None
            if deed <= FORM:
                steps += much
                if steps > most:
                    walk.place, steps = ((deed, steps - most, what, code), names, waiting), most
                    break
                if deed == HEAD:
                    head = what
                elif deed == NEED:
                    # A part's name is no small name, and is the name of its knot.
                    knot = names.get(what, what)
                else:
                    head, code, names, waiting = self._form(walk, what, code, names, waiting)
            elif deed == END:
                if waiting is None:
                    walk.end = head
                    break
                code, names, waiting = waiting
            elif head[0] != much:
                head, code, waiting = unfit(head, much, walk.knot), last_code(), None
            elif deed == LEFT:
                waiting = (head[1], waiting)
            elif deed == RIGHT:
                head, waiting = reckoned(what, waiting[0], head[1], walk.knot), waiting[1]
            elif deed == IF:
                code = what if head[1] else code
            elif deed == CALL:
                code, names, waiting = self._call(walk, what, head, code, names, waiting)
            else:
                knot = head[what]
            if knot is not None and (head := known.get(knot)) is None:
                walk.place, walk.need = (code, names, waiting), knot
                break
        self.steps, walk.steps = steps, steps - ahead

    def _form(self, walk, tree, code, names, waiting):
        """Begin a pair, a def or a let: the head that it comes to, None of a let, and the place behind that."""
        within = tree.within
        if tree.kind == "pair":
            left = walk.make(within[0], names)
            return (("pair", left, walk.make(within[1], names)), code, names, waiting)
        if tree.kind == "def":
            text = within[0].text
            self.bodies[text] = within[0]
            return (("def", tree.small, text, names_for(tree, names)), code, names, waiting)
        inner = {**names, tree.small: walk.make(within[0], names)}
        return (None, code_of(within[1]), inner, behind(code, names, waiting))

    def _call(self, walk, tree, head, code, names, waiting):
        """Call a def with a term: the place where the def's term is read."""
        _, small, text, stand = head
        inner = {name: knot for name, knot in stand}
        inner[small] = walk.make(tree, names)
        body = self.bodies.get(text)
        if body is None:
            body = tree_of(text)
            self.bodies[text] = body
        return (code_of(body), inner, behind(code, names, waiting))


def behind(code, names, waiting):
    """What waits for a term that has names of its own: no more than what waited, where nothing is done behind it."""
    return waiting if code[0] == END else (code, names, waiting)


def unfit(head, must, knot):
    """What a walk ends with where what it came to is no head, or none of the kind of which it must be."""
    return head if head[0] in NO_HEADS else ("fault", must, knot)


def names_for(tree, names):
    """What the free names of a tree stand for, as in a sense."""
    return tuple([(small, names[small]) for small in tree.free])


def reckoned(kind, left, right, knot):
    """The number of two numbers: their sum, difference or product, or 1 or 0 of below; or the fault "great"."""
    if kind == "sum":
        number = left + right
    elif kind == "less":
        number = left - right
    elif kind == "times":
        number = left * right
    else:
        number = 1 if left < right else 0
    if -GREATEST <= number <= GREATEST:
        return ("number", number)
    return ("fault", "great", knot)
