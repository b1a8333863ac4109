"""Bottoms: a knot read to the bottom, by what the knots come to (promises 11 and 13)."""

from unwritparts.runs import ASKED


class Bottom:
    """A reading of `?` to the bottom, on its way: the knot that is read now, and what is told, None until all is read.

    Pairs may stand within one another thousands deep, so what is still to be put down stands in a list.
    """

    def __init__(self):
        self.knot = ASKED
        self.told = None
        self._words = []
        # What is still to be put down, the next one last: knots to be read, and signs as they are.
        self._ahead = []

    def take(self, end):
        """Take what the knot that is read now comes to, and go on to the next one."""
        if end[0] == "number":
            self._words.append(str(end[1]))
        elif end[0] == "pair":
            self._words.append("[")
            self._ahead.extend([(False, "]"), (True, end[2]), (False, " "), (True, end[1])])
        else:
            self.told = no_word(self.knot, end)
            return
        self._put_down()

    def _put_down(self):
        """Put down signs up to the next knot; where there is none the word is told."""
        while self._ahead:
            is_knot, text = self._ahead.pop()
            if is_knot:
                self.knot = text
                return
            self._words.append(text)
        self.told = ("word", "".join(self._words))


def no_word(knot, end):
    """The kind and the what where a knot that is read to the bottom came to this, no number and no pair."""
    if end[0] == "def":
        return ("fault", ("told", knot))
    if end[0] == "fault":
        return ("fault", (end[1], end[2]))
    return (end[0], end[1])
