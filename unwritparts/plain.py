"""Plain reading: a term told by parts, read from the beginning (promises 10 to 12)."""

from unwritparts.readings import read_anew

# How many steps a telling has at most, where nothing else is told.
MOST = 1000


def plain(parts, term, *, most=MOST):
    """The telling of a term without free names by parts, tuples (name, Term)."""
    return read_anew({name: stands for name, stands in parts}, term, most)
