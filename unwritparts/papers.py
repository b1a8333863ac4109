"""Papers: what a telling that is sure comes from, row by row (promise 19)."""

from unwritparts.errors import NoPaper
from unwritparts.keeping import Keeping
from unwritparts.kept import Kept
from unwritparts.plain import MOST
from unwritparts.terms import refuse_loose


def paper_of(parts, term, *, most=MOST):
    """The paper of a term by parts, tuples (name, Term): a tuple (kind, what, rows)."""
    refuse_loose(term)
    reading = Keeping({name: stands for name, stands in parts}, term, most, Kept())
    told = reading.telling()
    if not told.is_sure():
        raise NoPaper(told.kind)
    return (told.kind, told.what, reading.rows())
