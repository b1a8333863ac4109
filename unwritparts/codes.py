"""Codes: what a walk does for a term, one code behind another (promise 8).

A code is a tuple (deed, much, what, then), and then is the code behind it. A code that begins a term has in much how
many terms are begun at once, and as many steps are done: where terms stand first within one another nothing else is
done between their steps. A code that looks at the head that was come to has in much the kind of which it must be.
"""

# Deeds that begin a term: it comes to the head what; it needs the knot of the name what; it is the tree what, a pair, a
# def or a let.
HEAD = 0
NEED = 1
FORM = 2
# The end of the walk's own term, of a let's second one or of a def's: what waits for that goes on.
END = 3
# Deeds that look at a head: of an if, what being the code of A, then that of B; of the first and the second number that
# are reckoned with, the second one's what being the word for this; of a call, what being the tree of A; of a pair, what
# being the place of the half that is needed.
IF = 4
LEFT = 5
RIGHT = 6
CALL = 7
HALF = 8


def code_of(tree):
    """The code of a tree; it is made once."""
    if tree.code is None:
        tree.code = coded(tree, 1, last_code())
    return tree.code


def last_code():
    """The code behind which there is none."""
    return (END, 0, None, None)


def coded(tree, begun, then):
    """The code of a tree with another one behind it; so many terms are begun with it, itself the last of them."""
    kind, within = tree.kind, tree.within
    if kind == "number":
        return (HEAD, begun, ("number", int(tree.text)), then)
    if kind == "name" or kind == "part":
        return (NEED, begun, tree.text, then)
    if kind == "pair" or kind == "def" or kind == "let":
        return (FORM, begun, tree, then)
    if kind == "if":
        behind = (IF, "number", coded(within[1], 1, then), coded(within[2], 1, then))
    elif kind == "first":
        behind = (HALF, "pair", 1, then)
    elif kind == "second":
        behind = (HALF, "pair", 2, then)
    elif kind == "call":
        behind = (CALL, "def", within[1], then)
    else:
        behind = (LEFT, "number", None, coded(within[1], 1, (RIGHT, "number", kind, then)))
    return coded(within[0], begun + 1, behind)
