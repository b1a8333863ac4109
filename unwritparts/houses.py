"""Houses: parts that are written, struck and asked, with their past and what is kept (promises 14 to 17)."""

from unwritparts.errors import Bare, Full, NoName, NoPart, Written
from unwritparts.keeping import Keeping
from unwritparts.kept import Kept
from unwritparts.plain import MOST
from unwritparts.terms import is_part_name, refuse_loose

MOST_PARTS = 60


class House:
    """Parts by names, as several hands write them; it is changed by write, strike and back, and keeps what it reads."""

    def __init__(self, parts=()):
        self._parts = {name: term for name, term in parts}
        # The deeds that aren't undone, each with the term that stood there before it, None where none did.
        self._deeds = []
        self._kept = Kept()

    def write(self, name, term, *, new=False):
        """Write a part, or rewrite it."""
        if not is_part_name(name):
            raise NoName(name)
        refuse_loose(term)
        is_written = name in self._parts
        if new and is_written:
            raise Written(name)
        if not is_written and len(self._parts) >= MOST_PARTS:
            raise Full(MOST_PARTS)
        self._deeds.append((("write", name, str(term)), self._parts.get(name)))
        self._parts[name] = term

    def strike(self, name):
        """Write a part no longer."""
        before = self.term_of(name)
        self._deeds.append((("strike", name), before))
        del self._parts[name]

    def back(self):
        """Undo the last deed that isn't undone; that deed."""
        if not self._deeds:
            raise Bare()
        deed, before = self._deeds.pop()
        if before is None:
            del self._parts[deed[1]]
        else:
            self._parts[deed[1]] = before
        return deed

    def past(self):
        """The deeds that aren't undone, in order, a list."""
        return [deed for deed, _ in self._deeds]

    def parts(self):
        """The written parts, a list of tuples (name, Term), sorted by the names."""
        return [(name, self._parts[name]) for name in sorted(self._parts)]

    def term_of(self, name):
        """The term of a written part."""
        if not is_part_name(name) or name not in self._parts:
            raise NoPart(name)
        return self._parts[name]

    def tell(self, term, *, most=MOST):
        """The telling of a term by the parts as they are now; nothing of what is kept is done again."""
        refuse_loose(term)
        reading = Keeping(self._parts, term, most, self._kept)
        told = reading.telling()
        self._kept.steps += reading.done()
        return told

    def done(self):
        """How many steps of walks were done in all."""
        return self._kept.steps

    def twin(self):
        """A house of its own that stands as this one."""
        other = House(self.parts())
        other._deeds = list(self._deeds)
        other._kept = self._kept.twin()
        return other

    def __eq__(self, other):
        # What is kept belongs to one house alone, and is equal to itself alone.
        return isinstance(other, House) and self._kept == other._kept

    def __len__(self):
        return len(self._parts)

    def __str__(self):
        return "".join([f"{name} {term}\n" for name, term in self.parts()])

    def __repr__(self):
        word = "part" if len(self._parts) == 1 else "parts"
        return f"House({len(self._parts)} {word})"
