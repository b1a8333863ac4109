"""What lacks: the part at which a term waits, and two writings of it (promise 18)."""

from unwritparts.errors import NoLack
from unwritparts.plain import MOST, plain
from unwritparts.terms import Term, refuse_loose


def lack(house, term, *, most=MOST):
    """The part at which a term waits, the telling with it written as itself, and that with it written as 0."""
    refuse_loose(term)
    # Read plainly, by the parts alone: so the house, what it keeps and what it has done stay as they are.
    parts = house.parts()
    told = plain(parts, term, most=most)
    if told.kind != "waits":
        raise NoLack(told.kind)
    part = told.what
    one = plain(parts + [(part, Term(part))], term, most=most)
    other = plain(parts + [(part, Term("0"))], term, most=most)
    return (part, one, other)


def wanted(house, terms, *, most=MOST):
    """The parts at which these terms wait, with how many of them do: a list of tuples, those of more ahead."""
    parts = house.parts()
    many = {}
    for term in terms:
        told = plain(parts, term, most=most)
        if told.kind == "waits":
            many[told.what] = many.get(told.what, 0) + 1
    return sorted(list(many.items()), key=lambda row: (-row[1], row[0]))
