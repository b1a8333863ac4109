"""Tellings: what is told of a term (promise 13)."""

SURE = ("word", "fault", "ring")


class Telling:
    """What is told of a term, with its steps and its set; it is never changed."""

    def __init__(self, kind, what, steps, *, known=()):
        self.kind = kind
        self.what = what
        self.steps = steps
        self.known = tuple(sorted(known))
        self._row = " ".join(words_of(kind, what, steps, self.known))

    def is_sure(self):
        """Whether it holds whatever the parts outside its set are: where it is a word, a fault or a ring."""
        return self.kind in SURE

    def __eq__(self, other):
        return isinstance(other, Telling) and self._row == other._row

    def __len__(self):
        return len(self.known)

    def __str__(self):
        return str(self._row)

    def __repr__(self):
        return f"Telling('{self._row}')"


def words_of(kind, what, steps, known):
    """The words of a telling's row: kind, what, steps, and by whom it is known, if by any."""
    words = [kind]
    if kind in ("fault", "ring"):
        words.extend(what)
    elif kind != "open":
        words.append(what)
    words.append(str(steps))
    if known:
        words.append("by")
        words.extend(known)
    return words
