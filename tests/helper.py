"""Other ways of walking, of reading and of keeping, as the document tells them, for tests to hold the program against.

Nothing here takes anything of the program but Term; all goes by calls within calls.
"""

from unwritparts.terms import Term

BOUND = 10 ** 12
NO_HEADS = ("fault", "ring", "waits")


class Ended(Exception):
    pass


class Open(Exception):
    pass


class OtherWalk:
    """The walk of promises 8 and 9, told in gots what the knots that it needs come to."""

    def __init__(self, knot, term, names, gots):
        self.knot, self.gots = knot, gots
        self.needs, self.steps, self.made = [], 0, []
        try:
            self.end = self.read(term, dict(names))
        except Ended as ended:
            self.end = ended.args[0]

    def make(self, term, names):
        knot = self.knot + "." + str(len(self.made) + 1)
        self.made.append((knot, str(term), tuple((name, names[name]) for name in term.free_names())))
        return knot

    def begin(self):
        self.steps += 1

    def got(self, knot):
        self.needs.append(knot)
        if len(self.needs) > len(self.gots):
            raise Ended(None)
        return self.gots[len(self.needs) - 1]

    def need(self, knot):
        got = self.got(knot)
        if got[0] in NO_HEADS:
            raise Ended(got)
        return got

    def must(self, word, term, names):
        head = self.read(term, names)
        if head[0] != word:
            raise Ended(("fault", word, self.knot))
        return head

    def reckon(self, term, names):
        left, right = [self.must("number", inner, names)[1] for inner in term.inner()]
        number = {
            "sum": left + right, "less": left - right, "times": left * right, "below": int(left < right),
        }[term.form()]
        if not -BOUND <= number <= BOUND:
            raise Ended(("fault", "great", self.knot))
        return ("number", number)

    def read(self, term, names):
        self.begin()
        form, inner = term.form(), term.inner()
        if form == "number":
            return ("number", int(str(term)))
        if form in ("name", "part"):
            return self.need(names[str(term)] if form == "name" else str(term))
        if form == "if":
            return self.read(inner[1] if self.must("number", inner[0], names)[1] else inner[2], names)
        if form == "pair":
            return ("pair", self.make(inner[0], names), self.make(inner[1], names))
        if form in ("first", "second"):
            return self.need(self.must("pair", inner[0], names)[1 if form == "first" else 2])
        if form == "let":
            return self.read(inner[1], {**names, term.bound(): self.make(inner[0], names)})
        if form == "def":
            stand = tuple((name, names[name]) for name in term.free_names())
            return ("def", term.bound(), str(inner[0]), stand)
        if form == "call":
            _, small, text, stand = self.must("def", inner[0], names)
            return self.read(Term(text), {**dict(stand), small: self.make(inner[1], names)})
        return self.reckon(term, names)


class WalkOfReading(OtherWalk):
    """A walk whose needed knots are walked as it needs them."""

    def __init__(self, reading, knot, term, names):
        self.reading = reading
        OtherWalk.__init__(self, knot, term, names, [])

    def begin(self):
        self.reading.step()

    def got(self, knot):
        for made, text, names in self.made:
            self.reading.senses[made] = (text, names)
        return self.reading.come(knot)


class OtherReading:
    """The plain reading of promises 10 to 13: parts a dict of texts, told a text."""

    def __init__(self, parts, text, most):
        self.parts, self.most = parts, most
        self.senses = {"?": (text, ())}
        self.steps, self.known, self.chain, self.ends = 0, [], [], {}
        try:
            kind, what = "word", [self.word("?")]
        except Ended as ended:
            kind, what = ended.args
        except Open:
            kind, what, self.steps, self.known = "open", [], most, []
        by = ["by"] + sorted(self.known) if self.known else []
        self.kind = kind
        self.row = " ".join([kind] + what + [str(self.steps)] + by)

    def step(self):
        if self.steps == self.most:
            raise Open()
        self.steps += 1

    def come(self, knot):
        if knot in self.ends:
            return self.ends[knot]
        if knot in self.chain:
            ring = self.chain[self.chain.index(knot):]
            while ring[0] != min(ring):
                ring.append(ring.pop(0))
            return ("ring", tuple(ring))
        if knot.isalpha():
            if knot not in self.parts:
                return ("waits", knot)
            self.known.append(knot)
            self.senses[knot] = (self.parts[knot], ())
        self.chain.append(knot)
        end = self.walk(knot)
        self.chain.pop()
        self.ends[knot] = end
        return end

    def walk(self, knot):
        text, names = self.senses[knot]
        walk = WalkOfReading(self, knot, Term(text), names)
        for made, text, names in walk.made:
            self.senses[made] = (text, names)
        return walk.end

    def word(self, knot):
        self.step()
        end = self.come(knot)
        if end[0] == "number":
            return str(end[1])
        if end[0] == "pair":
            left = self.word(end[1])
            return "[" + left + " " + self.word(end[2]) + "]"
        if end[0] == "ring":
            raise Ended("ring", list(end[1]))
        raise Ended(*(("fault", ["told", knot]) if end[0] == "def" else (end[0], list(end[1:]))))


class KeepingReading(OtherReading):
    """The same over what is kept (16 and 17): of each knot its sense, what came to it, how many steps were done."""

    def __init__(self, parts, text, most, kept):
        self.text, self.kept, self.done = text, kept, 0
        OtherReading.__init__(self, parts, text, most)

    def walk(self, knot):
        place = (knot, self.text if knot[0] == "?" else "")
        text, names = self.senses[knot]
        if place not in self.kept or self.kept[place]["sense"] != (text, names):
            self.kept[place] = {"sense": (text, names), "gots": [], "far": 0}
        kept = self.kept[place]
        at = counted = 0
        while True:
            seen = OtherWalk(knot, Term(text), names, kept["gots"][:at])
            for made, row, stand in seen.made:
                self.senses[made] = (row, stand)
            while counted < seen.steps:
                self.step()
                counted += 1
                if counted > kept["far"]:
                    kept["far"] = counted
                    self.done += 1
            if seen.end is not None:
                return seen.end
            got = self.come(seen.needs[-1])
            if at < len(kept["gots"]) and kept["gots"][at] != got:
                kept["gots"] = kept["gots"][:at]
                kept["far"] = counted
            if at == len(kept["gots"]):
                kept["gots"].append(got)
            at += 1


class OtherHouse:
    """A house of texts that does as promises 14 to 17 tell: it never refuses."""

    def __init__(self):
        self.parts, self.pasts, self.kept, self.done = {}, [], {}, 0

    def change(self, parts):
        self.pasts.append(self.parts)
        self.parts = parts

    def write(self, name, text):
        self.change({**self.parts, name: text})

    def strike(self, name):
        self.change({other: text for other, text in self.parts.items() if other != name})

    def back(self):
        self.parts = self.pasts.pop()

    def tell(self, text, most):
        reading = KeepingReading(self.parts, text, most, self.kept)
        self.done += reading.done
        return reading.row


class NoRows(Exception):
    pass


class OtherLooker:
    """The looker of promise 20: parts a dict of texts, told a text; it is slow and takes small papers alone."""

    def __init__(self, parts, text, thing):
        self.senses = {name: (row, ()) for name, row in parts.items()}
        self.senses["?"] = (text, ())
        try:
            kind, what, rows = self.shaped(thing, tuple, 3)
            self.rows = {}
            for row in self.shaped(rows, list):
                knot, gots, end = self.shaped(row, tuple, 3)
                self.must(self.is_text(knot) and knot not in self.rows)
                gots = [self.shaped(got, tuple, 2) for got in self.shaped(gots, tuple)]
                self.must(all(self.is_text(needed) for needed, _ in gots))
                self.rows[knot] = (gots, self.shaped(end, tuple))
            self.walk_all()
            self.order()
            for knot in self.rows:
                if self.rows[knot][1][0] == "ring":
                    self.lead(knot)
            self.left = 5000
            self.must((type(kind), kind) == (str, self.kind()))
            self.must(repr(what) == repr(self.what))
            self.holds = True
        except NoRows:
            self.holds = False

    def must(self, truth):
        if not truth:
            raise NoRows()

    def is_text(self, thing):
        return type(thing) is str

    def shaped(self, thing, kind, many=None):
        self.must(type(thing) is kind and (many is None or len(thing) == many))
        return thing

    def walk_all(self):
        for knot in sorted(self.rows, key=lambda knot: knot.count(".")):
            gots, end = self.rows[knot]
            self.must(knot in self.senses)
            for needed, got in gots:
                self.must(needed in self.rows and repr(got) == repr(self.rows[needed][1]))
            text, names = self.senses[knot]
            try:
                walk = OtherWalk(knot, Term(text), names, [got for _, got in gots])
            except (ArithmeticError, AttributeError, LookupError, TypeError, ValueError):
                # Some got is no head at all, so no walk ended with it.
                raise NoRows() from None
            self.must(walk.needs == [needed for needed, _ in gots] and repr(walk.end) == repr(end))
            self.must(end[0] != "waits")
            for made, text, names in walk.made:
                self.senses[made] = (text, names)

    def order(self):
        """Take away rows whose needed knots are taken away, as long as there is one."""
        left = dict(self.rows)
        while left:
            free = []
            for knot, (gots, end) in left.items():
                ahead = gots[:-1] if end[0] == "ring" else gots
                if not any(needed in left for needed, _ in ahead):
                    free.append(knot)
            self.must(free)
            for knot in free:
                del left[knot]

    def lead(self, knot):
        knots = self.shaped(self.rows[knot][1][1], tuple)
        self.must(all(self.is_text(other) for other in knots))
        many = 0
        while knot not in knots:
            many += 1
            self.must(many <= len(self.rows))
            self.must(self.rows[knot][1] == self.rows[self.rows[knot][0][-1][0]][1])
            knot = self.rows[knot][0][-1][0]
        self.must(len(set(knots)) == len(knots) and knots[0] == sorted(knots)[0])
        start = knots.index(knot)
        for behind in knots[start + 1:] + knots[:start + 1]:
            self.must(self.rows[knot][1] == ("ring", knots))
            knot = self.rows[knot][0][-1][0]
            self.must(knot == behind)

    def kind(self):
        try:
            self.what = self.word("?")
        except Ended as ended:
            kind, self.what = ended.args
            return kind
        return "word"

    def word(self, knot):
        self.must(self.left > 0 and knot in self.rows)
        self.left -= 1
        end = self.rows[knot][1]
        if end[0] == "number":
            return str(end[1])
        if end[0] == "pair":
            left = self.word(end[1])
            return f"[{left} {self.word(end[2])}]"
        raise Ended(*(("fault", ("told", knot)) if end[0] == "def" else (end[0], end[1:] if end[0] == "fault" else end[1])))


def chance_term(chance, deep):
    """A term's text, anything at all with x, y and parts in it."""
    form = chance.choice(
        ["sum", "less", "times", "below", "if", "pair", "first", "second", "let", "def", "call", "0", "7", "x", "y",
         "A", "999999999999"] if deep else ["0", "-3", "x", "y", "A", "B"]
    )
    many = {"if": 3, "first": 1, "second": 1, "def": 1}.get(form, 2)
    if not form.islower() or len(form) == 1:
        return form
    bound = [chance.choice("xy")] if form in ("let", "def") else []
    return "(" + " ".join([form] + bound + [chance_term(chance, deep - 1) for _ in range(many)]) + ")"


# What the parts of a program by chance mostly come to, so that its terms mostly come to words.
KINDS = {"A": "number", "B": "pair", "C": "def", "D": "number", "E": "pair", "F": "def", "G": "number", "H": "number"}


def chance_closed(chance, deep, kind="number", scope=(), least=""):
    """A text of a term that mostly comes to a head of this kind, mostly by parts behind the least name.

    scope: tuples (small name, its kind).
    """
    if chance.random() < 0.03:
        kind = chance.choice(("number", "pair", "def"))
    if chance.random() < 0.03:
        least = ""
    leaves = [name for name, other in KINDS.items() if other == kind and name > least]
    leaves += [name for name, other in scope if other == kind] * 2
    if kind == "number":
        leaves += [chance.choice(["0", "1", "2", "-3", "999999999999"])]
    if leaves and (deep <= 0 or chance.random() < 0.25):
        return chance.choice(leaves)
    forms = {"number": ["sum", "less", "times", "below"], "pair": ["pair"] * 4, "def": ["def"] * 4}[kind]
    form = chance.choice(forms + (["if", "let", "call", "first", "second"] if deep > 0 else []))
    small, other = chance.choice("xy"), chance.choice(["number", "number", "pair", "def"])
    hidden = tuple(row for row in scope if row[0] != small)

    def inner(kind, scope=scope):
        return chance_closed(chance, deep - 1, kind, scope, least)

    if form == "if":
        return f"(if {inner('number')} {inner(kind)} {inner(kind)})"
    if form == "let":
        return f"(let {small} {inner(other)} {inner(kind, hidden + ((small, other),))})"
    if form == "def":
        return f"(def {small} {inner('number', hidden + ((small, 'number'),))})"
    if form == "call":
        return f"(call {inner('def')} {inner('number')})"
    if form in ("first", "second"):
        return f"({form} {inner('pair')})"
    if form == "pair":
        return f"(pair {inner('number')} {inner(chance.choice(['number', 'pair']))})"
    return f"({form} {inner('number')} {inner('number')})"


def chance_part(chance, name, deep=3):
    """A text of a part by chance, mostly by the parts behind it."""
    return chance_closed(chance, deep, KINDS[name], (), name)


def chance_parts(chance, many):
    """So many parts by chance, a dict of texts."""
    return {name: chance_part(chance, name) for name in chance.sample(sorted(KINDS), many)}


def terms_of(parts):
    """Parts, a dict of texts, as a list of tuples (name, Term)."""
    return [(name, Term(text)) for name, text in parts.items()]
