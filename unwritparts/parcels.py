"""Parcels: a house as bytes, and a house of these (promise 21)."""

from unwritparts.errors import NoParcel, NoTerm, TooMuch
from unwritparts.houses import MOST_PARTS, House
from unwritparts.terms import Term, is_part_name


def parcel_of(house):
    """The parcel of a house: its str as bytes."""
    return str(house).encode("ascii")


def house_of(thing):
    """The house of a parcel, with its parts and no past; any thing may be told."""
    if not isinstance(thing, bytes) or not thing.isascii():
        raise NoParcel("these are no ASCII bytes")
    rows = thing.decode("ascii").split("\n")
    if rows.pop() != "":
        raise NoParcel("the last row has no line feed behind it")
    if len(rows) > MOST_PARTS:
        raise NoParcel("there are too many rows")
    parts = [part_of(row) for row in rows]
    names = [name for name, _ in parts]
    if names != sorted(set(names)):
        raise NoParcel("the rows are not sorted, or a name stands there twice")
    return House(parts)


def part_of(row):
    """The part that a row of a parcel tells, a tuple (name, Term)."""
    name, _, text = row.partition(" ")
    if not is_part_name(name):
        raise NoParcel("there is no part's name")
    try:
        term = Term(text)
    except (NoTerm, TooMuch):
        raise NoParcel("there is no term behind the name") from None
    if term.free_names():
        raise NoParcel("there is a term with free names")
    return (name, term)
