"""The refusals: one class for each, none under another one, each with what it is about in its field."""


def own_copy(thing):
    """The thing with lists of its own, so that no list that was handed in is kept by a refusal."""
    if isinstance(thing, list):
        return [own_copy(inner) for inner in thing]
    if isinstance(thing, tuple):
        return tuple([own_copy(inner) for inner in thing])
    return thing


class NoTerm(ValueError):
    """No term's text; spot: how many signs of it some term's text begins with."""

    def __init__(self, spot):
        ValueError.__init__(self, "this is no term's text")
        self.spot = spot


class TooMuch(OverflowError):
    """A term that is too large; what: "deep" or "many"."""

    def __init__(self, what):
        OverflowError.__init__(self, "this term is too large")
        self.what = what


class NoName(TypeError):
    """No part's name; name: what was told."""

    def __init__(self, name):
        TypeError.__init__(self, "this is no part's name")
        self.name = own_copy(name)


class Loose(ArithmeticError):
    """A term with free names where none may be; names: the tuple of these."""

    def __init__(self, names):
        ArithmeticError.__init__(self, "this term has free names")
        self.names = tuple(names)


class Written(LookupError):
    """A part that is to be new is written already; name: its name."""

    def __init__(self, name):
        LookupError.__init__(self, "this part is written already")
        self.name = name


class NoPart(KeyError):
    """No written part; name: what was told."""

    def __init__(self, name):
        KeyError.__init__(self, "no such part is written")
        self.name = own_copy(name)


class Full(IndexError):
    """There is no place for one more part; most: how many there may be."""

    def __init__(self, most=60):
        IndexError.__init__(self, "no more parts can be written")
        self.most = most


class Bare(RuntimeError):
    """There is no deed that could be undone."""


class NoLack(NotImplementedError):
    """A telling that waits at no part; kind: that of the telling."""

    def __init__(self, kind):
        NotImplementedError.__init__(self, "nothing lacks here")
        self.kind = kind


class NoPaper(Exception):
    """A telling that isn't sure; kind: that of the telling."""

    def __init__(self, kind):
        Exception.__init__(self, "there is no paper of what isn't sure")
        self.kind = kind


class NoParcel(ValueError):
    """No parcel of a house."""


class NoRow(ValueError):
    """No row that a desk reads; row: what was told."""

    def __init__(self, row):
        ValueError.__init__(self, "this is no row of the desk")
        self.row = own_copy(row)
