"""Terms, and the names of parts (promises 4 to 6)."""

from unwritparts.errors import Loose
from unwritparts.trees import GREAT, MOST_GREAT, all_trees, is_run, tree_of


class Term:
    """A term, made of its text; it is never changed."""

    def __init__(self, text):
        self._tree = tree_of(text)
        self._text = text
        self._trees = all_trees(self._tree)

    def form(self):
        """The form: "number", "name", "part", or the word behind the bracket."""
        return self._tree.kind

    def inner(self):
        """The terms straight within this one, in order, a list of Terms."""
        return [Term(tree.text) for tree in self._tree.within]

    def bound(self):
        """The small name behind let or def; None of other forms."""
        return self._tree.small

    def free_names(self):
        """The small names in it for which no let or def stands, sorted, each once."""
        return list(self._tree.free)

    def part_names(self):
        """The parts' names in it, sorted, each once."""
        return sorted(set([tree.text for tree in self._trees if tree.kind == "part"]))

    def tree(self):
        """What was read of the text: walks go over it, so that no text is read again."""
        return self._tree

    def __eq__(self, other):
        return isinstance(other, Term) and self._text == other._text

    def __len__(self):
        return len(self._trees)

    def __str__(self):
        return str(self._text)

    def __repr__(self):
        return f"Term('{self._text}')"


def is_part_name(thing):
    """Whether a thing, any thing, is a part's name."""
    return isinstance(thing, str) and is_run(thing, GREAT, MOST_GREAT)


def refuse_loose(term):
    """Refuse a term that has free names."""
    names = term.free_names()
    if names:
        raise Loose(tuple(names))
