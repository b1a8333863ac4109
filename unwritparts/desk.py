"""The desk: a house that is told rows and answers with texts (promise 22)."""

from unwritparts.errors import NoName, NoRow
from unwritparts.houses import House
from unwritparts.lacks import lack
from unwritparts.papers import paper_of
from unwritparts.plain import MOST
from unwritparts.terms import Term, is_part_name
from unwritparts.trees import FIGURES, is_run

BLANK = " "
OK = "ok"
NONE = "-"
GREATEST_MOST = 5000
MOST_FIGURES = 4

# What stands behind the first word of a row.
ALONE = ("back", "parts", "done")
WITH_NAME = ("strike", "show")
WITH_TEXT = ("tell", "lack", "paper")


class Desk:
    """A house and a most, changed by what is said to it alone."""

    def __init__(self):
        self._house = House()
        self._most = MOST

    def say(self, row):
        """The answer to a row; any thing may be told."""
        if not is_row(row):
            raise NoRow(row)
        word, _, rest = row.partition(BLANK)
        if word in WITH_TEXT:
            return self._ask(word, Term(rest))
        if word == "parts":
            return " ".join([name for name, _ in self._house.parts()]) or NONE
        if word == "done":
            return str(self._house.done())
        if word == "show":
            return str(self._house.term_of(rest))
        self._change(word, rest)
        return OK

    def _ask(self, word, term):
        """What is told of a term."""
        if word == "tell":
            return str(self._house.tell(term, most=self._most))
        if word == "paper":
            _, _, rows = paper_of(self._house.parts(), term, most=self._most)
            return str(len(rows))
        part, one, other = lack(self._house, term, most=self._most)
        return f"{part} | {one} | {other}"

    def _change(self, word, rest):
        """Do what a row says that is answered with no more than that it is done."""
        if word == "write":
            self._write(rest)
        elif word == "strike":
            self._house.strike(rest)
        elif word == "back":
            self._house.back()
        else:
            self._most = int(rest)

    def _write(self, rest):
        """Write a part by its name and its term's text."""
        name, _, text = rest.partition(BLANK)
        # The house looks at the name too, but it can be handed no term where the text is none.
        if not is_part_name(name):
            raise NoName(name)
        self._house.write(name, Term(text))


def is_row(thing):
    """Whether a thing, any thing, is a row that a desk reads."""
    if not isinstance(thing, str):
        return False
    word, blank, rest = thing.partition(BLANK)
    if word in ALONE:
        return blank == ""
    if word in WITH_NAME:
        return is_word(rest)
    if word in WITH_TEXT:
        return rest != ""
    if word == "most":
        return is_most(rest)
    name, _, text = rest.partition(BLANK)
    return word == "write" and name != "" and text != ""


def is_word(text):
    """Whether a text is a word: one sign at least, and no blank."""
    return text != "" and BLANK not in text


def is_most(text):
    """Whether a text is the number of a most: figures, the first no 0, within its bounds."""
    return is_run(text, FIGURES, MOST_FIGURES) and text[0] != "0" and int(text) <= GREATEST_MOST
