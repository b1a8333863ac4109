"""Shapes: whether any thing has the form of a paper's rows (promises 7 and 20)."""

from unwritparts.errors import NoTerm, TooMuch
from unwritparts.trees import MOST_SMALL, SMALL, is_run, tree_of


def is_tuple(thing, many):
    """Whether a thing is a tuple of so many things."""
    return isinstance(thing, tuple) and len(thing) == many


def is_row(thing, bodies):
    """Whether a thing is a tuple of a text, a tuple of tuples that begin with a text, and an end.

    What the needed knots came to isn't looked at here: it has to be what their own rows end with.
    """
    if not is_tuple(thing, 3):
        return False
    knot, gots, end = thing
    if not isinstance(knot, str) or not isinstance(gots, tuple):
        return False
    return all([is_tuple(got, 2) and isinstance(got[0], str) for got in gots]) and is_end(end, bodies)


def is_end(thing, bodies):
    """Whether a thing is what a knot of a paper can come to.

    Kept in bodies are the trees of the defs' texts: so each text is read once.
    """
    if not isinstance(thing, tuple) or len(thing) == 0:
        return False
    kind, rest = thing[0], thing[1:]
    if kind == "number":
        return len(rest) == 1 and isinstance(rest[0], int) and not isinstance(rest[0], bool)
    if kind == "pair" or kind == "fault":
        return len(rest) == 2 and are_texts(rest)
    if kind == "ring":
        return len(rest) == 1 and isinstance(rest[0], tuple) and are_texts(rest[0])
    return kind == "def" and len(rest) == 3 and is_def(rest, bodies)


def are_texts(things):
    """Whether all of the things are texts."""
    return all([isinstance(thing, str) for thing in things])


def is_def(rest, bodies):
    """Whether what stands behind the word of a def is a small name, a term's text, and its free names but that one."""
    small, text, names = rest
    if not are_texts((small, text)) or not is_run(small, SMALL, MOST_SMALL) or not isinstance(names, tuple):
        return False
    if text not in bodies and not is_read(text, bodies):
        return False
    free = [name for name in bodies[text].free if name != small]
    if len(names) != len(free):
        return False
    return all([is_tuple(row, 2) and row[0] == name and isinstance(row[1], str) for row, name in zip(names, free)])


def is_read(text, bodies):
    """Whether a text is a term's: then its tree is put among the bodies."""
    try:
        bodies[text] = tree_of(text)
    except (NoTerm, TooMuch):
        return False
    return True


def is_same(got, end):
    """Whether a thing is just this end; True and False are no numbers."""
    return got == end and (end[0] != "number" or not isinstance(got[1], bool))
