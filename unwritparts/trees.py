"""Texts of terms read into trees, on which terms and walks stand (promises 4 to 6)."""

from unwritparts.errors import NoTerm, TooMuch

# How many terms stand behind each word of a bracket.
WORDS = {
    "sum": 2,
    "less": 2,
    "times": 2,
    "below": 2,
    "if": 3,
    "pair": 2,
    "first": 1,
    "second": 1,
    "let": 2,
    "def": 1,
    "call": 2,
}
BINDERS = ("let", "def")
SMALL = "abcdefghijklmnopqrstuvwxyz"
GREAT = "ABCDEFGHIJKLMNOPQRSTUVWXYZ"
FIGURES = "0123456789"
FIRST_FIGURES = "123456789"
MOST_SMALL = 4
MOST_GREAT = 6
MOST_FIGURES = 12
MOST_OPEN = 30
MOST_TERMS = 200
CLOSE = ")"


class Tree:
    """A term as it was read: its text, its form as kind, the small name behind let or def, the trees within."""

    def __init__(self, text, kind, small, within):
        self.text = text
        self.kind = kind
        self.small = small
        self.within = tuple(within)
        self.free = free_in(self)
        # What walks do for this term, made of the above when it is first walked.
        self.code = None


def free_in(tree):
    """The free names of a tree whose inner trees have theirs, sorted, as a tuple."""
    if tree.kind == "name":
        return (tree.text,)
    found = []
    for inner in tree.within[:-1]:
        found.extend(inner.free)
    # The small name of let and of def stands for the last term within alone; other forms have none.
    for inner in tree.within[-1:]:
        found.extend([small for small in inner.free if small != tree.small])
    return tuple(sorted(set(found)))


def all_trees(tree):
    """The tree and all trees within it, a list."""
    found = [tree]
    at = 0
    while at < len(found):
        within = found[at].within
        found.extend(within)
        at += 1
    return found


def run_end(text, at, signs, most):
    """The place behind the signs of this kind that stand from at on, the first so many of them."""
    end = at
    while end < len(text) and end - at < most and text[end] in signs:
        end += 1
    return end


def is_run(text, signs, most):
    """Whether a text is one sign at least, at most so many, all of this kind."""
    return text != "" and run_end(text, 0, signs, most) == len(text)


def behind(text, at, sign):
    """The place behind the one sign that must stand at this place."""
    if text[at:at + 1] != sign:
        raise NoTerm(at)
    return at + 1


def number_end(text, at):
    """The place behind the number that begins here."""
    if text[at] == "0":
        return at + 1
    first = at + 1 if text[at] == "-" else at
    second = run_end(text, first, FIRST_FIGURES, 1)
    if second == first:
        raise NoTerm(first)
    return run_end(text, second, FIGURES, MOST_FIGURES - 1)


def word_end(text, at):
    """The place behind the word of a bracket that begins here."""
    end = at
    while text[at:end] not in WORDS:
        longer = text[at:end + 1]
        if end == len(text) or not any([word.startswith(longer) for word in WORDS]):
            raise NoTerm(end)
        end += 1
    return end


def small_end(text, at):
    """The place behind the small name that must begin here."""
    end = run_end(text, at, SMALL, MOST_SMALL)
    if end == at:
        raise NoTerm(at)
    return end


def bracket_at(text, at):
    """The piece of the bracket that opens here: its word, where it begins and ends, its small name or None."""
    end = word_end(text, at + 1)
    word = text[at + 1:end]
    if word not in BINDERS:
        return (word, at, end, None)
    start = behind(text, end, " ")
    end = small_end(text, start)
    return (word, at, end, text[start:end])


def piece_at(text, at):
    """The piece with which a term begins here: the whole of it, or a bracket that opens."""
    if at == len(text):
        raise NoTerm(at)
    sign = text[at]
    if sign == "(":
        return bracket_at(text, at)
    if sign in SMALL:
        return ("name", at, run_end(text, at, SMALL, MOST_SMALL), None)
    if sign in GREAT:
        return ("part", at, run_end(text, at, GREAT, MOST_GREAT), None)
    if sign == "-" or sign in FIGURES:
        return ("number", at, number_end(text, at), None)
    raise NoTerm(at)


def pieces_of(text):
    """The pieces of a term's text, in order: tuples (form or CLOSE, begin, end, small name or None).

    Each sign is read once and the reading stops at the first that no term's text has there, so the
    place where it stops is the spot of NoTerm. Sizes are not looked at: what is no term's text is
    refused with NoTerm, however large it is.
    """
    pieces = []
    lacking = []
    at = 0
    while True:
        piece = piece_at(text, at)
        pieces.append(piece)
        at = piece[2]
        if piece[0] in WORDS:
            lacking.append(WORDS[piece[0]])
        while lacking and lacking[-1] == 0:
            lacking.pop()
            pieces.append((CLOSE, at, behind(text, at, CLOSE), None))
            at += 1
        if not lacking:
            break
        at = behind(text, at, " ")
        lacking[-1] -= 1
    if at != len(text):
        raise NoTerm(at)
    return pieces


def check_size(pieces):
    """Refuse a term that has too many brackets open at once, or too many terms."""
    opened = 0
    terms = 0
    deepest = 0
    for piece in pieces:
        if piece[0] == CLOSE:
            opened -= 1
        else:
            terms += 1
        if piece[0] in WORDS:
            opened += 1
            deepest = max(deepest, opened)
    if deepest > MOST_OPEN:
        raise TooMuch("deep")
    if terms > MOST_TERMS:
        raise TooMuch("many")


def built(text, pieces):
    """The tree of a term's text from its pieces."""
    opened = []
    rows = [[]]
    for piece in pieces:
        kind, begin, end, small = piece
        if kind in WORDS:
            opened.append(piece)
            rows.append([])
            continue
        within = []
        if kind == CLOSE:
            kind, begin, _, small = opened.pop()
            within = rows.pop()
        rows[-1].append(Tree(text[begin:end], kind, small, within))
    return rows[0][0]


def tree_of(text):
    """The tree of a term's text, of any thing; NoTerm or TooMuch where there is none."""
    if not isinstance(text, str):
        raise NoTerm(0)
    pieces = pieces_of(text)
    check_size(pieces)
    return built(text, pieces)
