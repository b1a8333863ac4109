"""Promises 2, 3 and 20: the looker."""

import copy
import random
import unittest

from helper import OtherLooker, chance_closed, chance_parts, terms_of
from test_papers import PAPERS, THREE, TWO
from unwritparts.errors import NoPaper
from unwritparts.looker import holds
from unwritparts.papers import paper_of
from unwritparts.plain import plain
from unwritparts.terms import Term

OTHERS = (
    0, 1, -1, 3, 7, 10 ** 12, 10 ** 59, -(10 ** 59), True, False, None, "", "3", "?", "P", "Q", "P.1", "?.1", "?.01", "x",
    "number", "word", "waits", "R", (), [], ("number", 3), ("number", True), ("number",), ("number", 3, 3), ["number", 3],
    ("fault", "number", "P"), ("fault", "number"), ("ring", ("P",)), ("ring", ()), ("ring", "P"), ("ring", ["P"]),
    ("waits", "R"), ("pair", "P.1", "P.2"), ("pair", "P.1"), ("def", "x", "x", ()), ("def", "x", "(sum x y)", ()),
    ("def", "x", "(sum", ()), ("def", "x", "x", (("x", "P"),)), ("def", "xxxxx", "x", ()), ("def", "x", 3, ()),
    (("P", ("number", 3)),), ("P", (), ("number", 3)), [("?", (), ("number", 3))], [[[[[[[[[[]]]]]]]]]], ((((((((),),),),),),),),
)


def replaced(thing):
    """Each thing that is made of a thing by putting something else in one place."""
    for other in OTHERS:
        if repr(other) != repr(thing):
            yield other
    if isinstance(thing, (tuple, list)):
        yield list(thing) if isinstance(thing, tuple) else tuple(thing)
        for at in range(len(thing)):
            for other in replaced(thing[at]):
                yield thing[:at] + type(thing)([other]) + thing[at + 1:]
            yield thing[:at] + thing[at + 1:]
            yield thing[:at] + thing[at:at + 1] * 2 + thing[at + 1:]
        yield thing + type(thing)([None])
    if isinstance(thing, str):
        yield thing + "1"
        yield thing + " "
        yield thing[:-1]
    if isinstance(thing, int):
        yield thing + 1
        yield -thing if thing else 2
        yield str(thing)
    if thing in (0, 1):
        yield bool(thing)


def all_rows(parts, text, more):
    """The paper of a term with the rows behind it that papers of more terms have of parts' knots."""
    kind, what, rows = paper_of(terms_of(parts), Term(text))
    for other in more:
        for row in paper_of(terms_of(parts), Term(other))[2]:
            if not row[0].startswith("?") and row not in rows:
                rows.append(row)
    return (kind, what, rows)


class LookerTest(unittest.TestCase):
    def look(self, parts, text, thing, truth):
        """Check what the looker says of a thing, and that the thing stays as it was."""
        before = copy.deepcopy(thing)
        told = holds(terms_of(parts), Term(text), thing)
        self.assertIs(told, truth, (parts, text, thing))
        self.assertEqual(repr(thing), repr(before))

    def test_told_papers(self):
        for parts, text, paper in PAPERS:
            self.look(parts, text, paper, True)
            self.look(parts, text, paper_of(terms_of(parts), Term(text)), True)

    def test_rows_in_any_order(self):
        chance = random.Random(20)
        for parts, text, (kind, what, rows) in PAPERS:
            for _ in range(5):
                rows = chance.sample(rows, len(rows))
                self.look(parts, text, (kind, what, rows), True)
            self.look(parts, text, (kind, what, rows[::-1]), True)

    def test_parts_in_any_order_and_those_of_the_set_alone(self):
        for parts, text, paper in PAPERS:
            told = plain(terms_of(parts), Term(text))
            least = {name: parts[name] for name in reversed(told.known)}
            self.look(least, text, paper, True)
            self.look({"ZA": "(sum 1 ZA)", **least, "R": "(first 1)"} if "R" not in least else least, text, paper, True)
            for name in told.known:
                self.look({other: row for other, row in least.items() if other != name}, text, paper, False)

    def test_another_part_or_another_term(self):
        parts, text, paper = PAPERS[3]
        self.look({**parts, "S": "8"}, text, paper, True)
        self.look({**parts, "Q": "3"}, text, paper, False)
        self.look({**parts, "Q": "(sum 1 1)"}, text, paper, True)
        self.look({**parts, "R": "(less Q -1)"}, text, paper, True)
        self.look({**parts, "R": "(sum 1 Q)"}, text, paper, True)
        self.look({**parts, "P": "(sum Q (times Q R))"}, text, paper, False)
        self.look(parts, "(sum P R)", paper, False)
        self.look(parts, "(sum (sum R 0) P)", paper, True)
        self.look(parts, "11", paper, False)

    def test_more_knots_than_are_needed(self):
        parts = {"P": "(sum Q 1)", "Q": "4", "R": "(pair (sum P 1) 2)", "S": "S", "T": "(sum 1 S)", "U": "(first Q)",
                 "V": "(pair V 3)"}
        more = ("P", "R", "S", "T", "U", "(second V)")
        for text in ("3", "P", "(first R)", "S", "(pair T 1)", "U", "(second V)"):
            paper = all_rows(parts, text, more)
            self.assertGreater(len(paper[2]), 10)
            self.look(parts, text, paper, True)
            self.look(parts, text, paper[:2] + (paper[2][::-1],), True)
            # Rows that aren't needed have to be so all the same.
            for at, (knot, gots, end) in enumerate(paper[2]):
                for other in ((knot, gots, ("number", 77)), (knot, gots + (("P", ("number", 5)),), end)):
                    self.look(parts, text, paper[:2] + (paper[2][:at] + [other] + paper[2][at + 1:],), False)

    def test_a_row_of_what_is_not_needed_of_a_made_knot(self):
        parts, text = {}, "(let x (sum 1 2) (pair 7 x))"
        kind, what, rows = paper_of([], Term("(first (pair 5 (sum 1 1)))"))
        row = ("?.2", (), ("number", 2))
        self.look(parts, "(first (pair 5 (sum 1 1)))", (kind, what, rows + [row]), True)
        self.look(parts, "(first (pair 5 (sum 1 1)))", (kind, what, rows + [("?.3", (), ("number", 2))]), False)
        self.look(parts, text, paper_of([], Term(text)), True)

    def test_one_row_left_out_or_twice(self):
        for parts, text, (kind, what, rows) in PAPERS:
            for at in range(len(rows)):
                self.look(parts, text, (kind, what, rows[:at] + rows[at + 1:]), False)
                self.look(parts, text, (kind, what, rows + [rows[at]]), False)
                self.look(parts, text, (kind, what, rows[at:at + 1] + rows), False)

    def test_a_row_of_a_part_that_is_not_there(self):
        parts, text, (kind, what, rows) = PAPERS[0]
        for row in (("Z", (), ("number", 3)), ("Z", (("Z", ("ring", ("Z",))),), ("ring", ("Z",))),
                    ("Z", (), ("waits", "Z"))):
            self.look(parts, text, (kind, what, rows + [row]), False)
        self.look({"Z": "3"}, text, (kind, what, rows + [("Z", (), ("number", 3))]), True)

    def test_a_row_of_a_knot_that_nobody_makes(self):
        parts, text, (kind, what, rows) = PAPERS[6]
        for knot in ("?.3", "?.0", "?.01", "?.1.1", "?.", ".1", ".", "", "P.3", "P.2.1", "Q.1", "?1", "?.x", "?.1 ", "x",
                     "p", "P.1.", "??", "?.2.1"):
            for gots, end in (((), ("number", 3)), ((("Q", ("number", 4)),), ("number", 4))):
                self.look(parts, text, (kind, what, rows + [(knot, gots, end)]), False)

    def test_a_made_knot_without_its_makers_row(self):
        parts = {"P": "(pair 1 (pair 2 3))", "Q": "4"}
        kind, what, rows = paper_of(terms_of(parts), Term("Q"))
        more = paper_of(terms_of(parts), Term("P"))[2][1:]
        self.look(parts, "Q", (kind, what, rows + more), True)
        for gone in ("P", "P.2"):
            self.look(parts, "Q", (kind, what, rows + [row for row in more if row[0] != gone]), False)

    def test_another_thing_in_any_place(self):
        for parts, text, paper in PAPERS:
            rows = terms_of(parts)
            term = Term(text)
            many = 0
            for other in replaced(paper):
                many += 1
                self.assertIs(holds(rows, term, other), False, (parts, text, other))
            self.assertGreater(many, 300)

    def test_no_paper_at_all(self):
        for thing in OTHERS + (b"", b"3", 3.5, {}, ("word", "3", []), ("word", "3", ()), ("word", "3"), ["word", "3", []]):
            self.look({}, "3", thing, False)
            self.look({"P": "P"}, "P", thing, False)

    def test_truths_are_no_numbers(self):
        for text, number, truth in (("1", 1, True), ("0", 0, False), ("(below 1 2)", 1, True), ("(below 2 2)", 0, False)):
            self.look({}, text, ("word", str(number), [("?", (), ("number", number))]), True)
            self.look({}, text, ("word", str(number), [("?", (), ("number", truth))]), False)
            self.look({}, text, ("word", truth, [("?", (), ("number", number))]), False)
            self.look({}, text, ("word", number, [("?", (), ("number", number))]), False)
            for got in (number, truth):
                for end in (number, truth):
                    for last in (number, truth):
                        thing = ("word", str(number), [("?", (("P", ("number", got)),), ("number", last)),
                                                       ("P", (), ("number", end))])
                        self.look({"P": text}, "P", thing, all(type(one) is int for one in (got, end, last)))

    def test_lists_are_no_tuples(self):
        parts, text, (kind, what, rows) = PAPERS[10]
        self.assertEqual((kind, what), ("fault", ("number", "P")))
        self.look(parts, text, (kind, list(what), rows), False)
        self.look(parts, text, (kind, what, tuple(rows)), False)
        self.look(parts, text, [kind, what, rows], False)
        for at, (knot, gots, end) in enumerate(rows):
            for row in ([knot, gots, end], (knot, list(gots), end), (knot, gots, list(end)),
                        (knot, tuple(list(got) for got in gots), end)):
                self.look(parts, text, (kind, what, rows[:at] + [row] + rows[at + 1:]), row == rows[at])

    def test_great_numbers(self):
        great = 10 ** 59
        for text in ("(sum P P)", "(times P P)", "(less P 1)", "P", "(if P 1 2)"):
            for end in (great, 2 * great, great * great % 10 ** 60, 1):
                thing = ("word", str(end), [("?", (("P", ("number", great)),) * 2, ("number", end)),
                                            ("P", (), ("number", great))])
                self.look({"P": "1"}, text, thing, False)


class CircleTest(unittest.TestCase):
    """Knots that vouch for one another in a circle."""

    def look(self, parts, text, thing, truth):
        self.assertIs(holds(terms_of(parts), Term(text), thing), truth, thing)
        self.assertIs(OtherLooker(parts, text, thing).holds, truth)

    def test_by_numbers(self):
        for number in (0, 3, -7):
            got = ("number", number)
            one = ("?", (("P", got),), got)
            self.look({"P": "P"}, "P", ("word", str(number), [one, ("P", (("P", got),), got)]), False)
            self.look({"P": "Q", "Q": "(if R P 9)", "R": "1"}, "P", ("word", str(number), [
                one, ("P", (("Q", got),), got), ("Q", (("R", ("number", 1)), ("P", got)), got), ("R", (), ("number", 1)),
            ]), False)
            self.look({"P": "(let x x x)"}, "P", ("word", str(number), [one, ("P", (("P.1", got),), got)]), False)
        zero = ("number", 0)
        self.look({"P": "(times P 0)"}, "P", ("word", "0", [("?", (("P", zero),), zero), ("P", (("P", zero),), zero)]),
                  False)

    def test_by_rows_that_are_not_needed(self):
        got = ("number", 3)
        self.look({"P": "P"}, "3", ("word", "3", [("?", (), got), ("P", (("P", got),), got)]), False)
        self.look({"P": "P"}, "3", ("word", "3", [("?", (), got), ("P", (("P", ("ring", ("P",))),), ("ring", ("P",)))]),
                  True)

    def test_by_pairs_and_defs(self):
        for head in (("pair", "P", "Q"), ("pair", "P.1", "P.2"), ("pair", "?", "?"), ("def", "x", "x", ()),
                     ("def", "x", "y", (("y", "P"),))):
            rows = [("?", (("P", head),), ("fault", "number", "?")), ("P", (("Q", head),), head), ("Q", (("P", head),), head)]
            self.look({"P": "Q", "Q": "P"}, "(sum P 1)", ("fault", ("number", "?"), rows), False)
            rows = [("?", (("P", head),), head), ("P", (("P", head),), head)]
            self.look({"P": "P"}, "P", ("fault", ("told", "?"), rows), False)
        head = ("pair", "P", "Q")
        rows = [("?", (("P", head), ("Q", ("number", 4))), ("number", 4)), ("P", (("P", head),), head),
                ("Q", (), ("number", 4))]
        self.look({"P": "P", "Q": "4"}, "(second P)", ("word", "4", rows), False)

    def test_by_heads_that_are_none(self):
        deep, many = "(first " * 31 + "1" + ")" * 31, "(sum " * 4 + "1" + (" " + "(sum 1 " * 29 + "1" + ")" * 29 + ")") * 4
        for text in (deep, many):
            with self.assertRaises(OverflowError):
                Term(text)
        for small, text, names in (
            ("x", "(def z (sum z y))", ()), ("x", "(pair y 1)", ()), ("x", "y", ()), ("x", "x", (("x", "P"),)),
            ("x", "(def z (sum z y))", (("z", "P"),)), ("x", "(sum y z)", (("z", "P"), ("y", "P"))),
            ("x", "(def z (sum z y))", (("y", "P"), ("z", "P"))), ("x", "y", (("y",),)), ("x", "y", (("y", "P", "P"),)),
            ("x", "y", ("yP",)), ("x", "y", (3,)), ("x", "y", (("y", 3),)), ("x", "y", (("y", ["P"]),)),
            ("x", "y", (["y", "P"],)), ("x", "y", [("y", "P")]), ("x", "y", ((3, "P"),)), ("x", "y", "yP"), ("x", "y", None),
            ("x", deep, ()), ("x", many, ()), ("x", "(sum 1", ()), ("x", "", ()), ("x", "x ", ()), ("x", None, ()),
            ("x", ["x"], ()), ("X", "1", ()), ("", "1", ()), ("abcde", "1", ()), (3, "1", ()), (["x"], "1", ()),
            ("x1", "1", ()), ("x", True, ()),
        ):
            head = ("def", small, text, names)
            for last in (("number", 1), head, ("pair", "?.1", "?.2"), ("fault", "number", "?")):
                for gots in (((("P", head)),), (("P", head), ("y", ("number", 1))), (("P", head), ("?.1", ("number", 1)))):
                    rows = [("?", gots, last), ("P", (("P", head),), head), ("?.1", (), ("number", 1))]
                    for thing in (("word", "1", rows), ("word", "1", rows[:2]), ("fault", ("number", "?"), rows[:2])):
                        self.assertIs(holds(terms_of({"P": "P"}), Term("(call P 1)"), thing), False)
                        self.assertIs(holds(terms_of({"P": "P"}), Term("(sum 1 (call P 1))"), thing), False)

    def test_by_faults(self):
        for word in ("number", "pair", "def", "great", "told"):
            for knot in ("P", "Q", "?", "Z"):
                end = ("fault", word, knot)
                rows = [("?", (("P", end),), end), ("P", (("Q", end),), end), ("Q", (("P", end),), end)]
                self.look({"P": "Q", "Q": "P"}, "P", ("fault", (word, knot), rows), False)

    def test_by_waiting(self):
        end = ("waits", "R")
        for rows in ([("?", (("R", end),), end)], [("?", (("R", end),), end), ("R", (), end)],
                     [("?", (("R", end),), end), ("R", (("R", end),), end)]):
            self.look({}, "R", ("waits", "R", rows), False)
            self.look({"R": "R"}, "R", ("waits", "R", rows), False)
            self.look({"R": "S"}, "R", ("waits", "R", rows), False)


class RingTest(unittest.TestCase):
    def look(self, parts, text, thing, truth):
        self.assertIs(holds(terms_of(parts), Term(text), thing), truth, thing)
        self.assertIs(OtherLooker(parts, text, thing).holds, truth)

    def with_ring(self, paper, knots):
        """The paper with other knots in the place of its ring, everywhere."""
        was = ("ring", paper[1])

        def other(end):
            return ("ring", knots) if end == was else end

        rows = [(knot, tuple((needed, other(got)) for needed, got in gots), other(end)) for knot, gots, end in paper[2]]
        return ("ring", knots, rows)

    def test_other_rings(self):
        parts = {"A": "(sum B 1)", "B": "(sum 1 C)", "C": "(pair D A)", "D": "(first C)", "E": "(sum D (sum E 1))"}
        parts["C"] = "A"
        paper = paper_of(terms_of(parts), Term("C"))
        self.assertEqual(paper[1], ("A", "B", "C"))
        self.look(parts, "C", self.with_ring(paper, ("A", "B", "C")), True)
        for knots in (("B", "C", "A"), ("C", "A", "B"), ("A", "C", "B"), ("C", "B", "A"), ("A", "A", "B", "C"),
                      ("A", "B", "C", "A"), ("A", "B", "C", "A", "B", "C"), ("A", "B", "B", "C"), ("A", "B"), ("A", "C"),
                      ("B", "C"), ("A",), (), ("?", "A", "B", "C"), ("A", "B", "C", "D"), ("A", "B", "C", "?"), ("Z",),
                      ("A", "B", "Z"), ("A", "B", 3), ("A", "B", ("C",)), ("A", "B", None)):
            self.look(parts, "C", self.with_ring(paper, knots), False)

    def test_rings_that_one_is_led_to(self):
        for text, ring in (("R", TWO), ("(pair 1 (sum 2 R))", TWO), ("(second (pair 1 (sum Q 2)))", TWO), ("P", TWO)):
            parts = {"P": "(sum Q 1)", "Q": "(sum 1 P)", "R": "(times 2 Q)"}
            paper = paper_of(terms_of(parts), Term(text))
            self.assertEqual(paper[1], ring[1])
            self.look(parts, text, paper, True)
            for knots in (("Q", "P"), ("P",), ("Q",), ("P", "Q", "R"), ("?", "P", "Q"), ("P", "P", "Q")):
                self.look(parts, text, self.with_ring(paper, knots), False)

    def test_a_ring_of_one_knot(self):
        parts = {"P": "(sum 1 P)"}
        paper = paper_of(terms_of(parts), Term("P"))
        self.look(parts, "P", paper, True)
        for knots in (("P", "P"), (), ("?",), ("?", "P"), ("P", "?")):
            self.look(parts, "P", self.with_ring(paper, knots), False)

    def test_rings_of_made_knots(self):
        parts = {"A": "(pair 0 (first C))", "B": "(second A)", "C": "(sum 1 B)"}
        paper = paper_of(terms_of(parts), Term("C"))
        self.assertEqual(paper[1], THREE[1])
        self.look(parts, "C", paper, True)
        for knots in (("B", "A.2", "C"), ("C", "B", "A.2"), ("A.2", "B", "C"), ("A", "C", "B"), ("A.1", "C", "B")):
            self.look(parts, "C", self.with_ring(paper, knots), False)

    def test_a_ring_that_nobody_leads_to(self):
        parts = {"P": "Q", "Q": "P", "R": "S", "S": "R", "T": "T"}
        one, other, alone = ("ring", ("P", "Q")), ("ring", ("R", "S")), ("ring", ("T",))
        ring = [("P", (("Q", one),), one), ("Q", (("P", one),), one)]
        self.look(parts, "P", ("ring", ("P", "Q"), [("?", (("P", one),), one)] + ring), True)
        # R and S lead to one another alone, and say of themselves what P and Q come to.
        led = [("R", (("S", one),), one), ("S", (("R", one),), one)]
        self.look(parts, "R", ("ring", ("P", "Q"), [("?", (("R", one),), one)] + ring + led), False)
        self.look(parts, "P", ("ring", ("P", "Q"), [("?", (("P", one),), one)] + ring + led), False)
        for end in (other, alone):
            rows = [("?", (("P", end),), end), ("P", (("Q", end),), end), ("Q", (("P", end),), end)]
            more = [("R", (("S", other),), other), ("S", (("R", other),), other), ("T", (("T", alone),), alone)]
            self.look(parts, "P", ("ring", end[1], rows + more), False)
            self.look(parts, "P", ("ring", end[1], rows), False)
        more = [("R", (("S", other),), other), ("S", (("R", other),), other), ("T", (("T", alone),), alone)]
        self.look(parts, "P", ("ring", ("P", "Q"), [("?", (("P", one),), one)] + ring + more), True)

    def test_only_what_was_needed_last_may_stand_behind(self):
        # Q comes to a number only where P does.
        parts = {"P": "(sum Q P)", "Q": "(times P 0)"}
        ring = ("ring", ("P",))
        rows = [("?", (("P", ring),), ring), ("P", (("Q", ("number", 0)), ("P", ring)), ring),
                ("Q", (("P", ("number", 5)),), ("number", 0))]
        self.look(parts, "P", ("ring", ("P",), rows), False)
        parts = {"P": "(sum Q P)", "Q": "(if P 1 2)"}
        rows[2] = ("Q", (("P", ring),), ring)
        self.look(parts, "P", ("ring", ("P",), rows), False)
        self.look({"P": "(sum Q P)", "Q": "0"}, "P", ("ring", ("P",), rows[:2] + [("Q", (), ("number", 0))]), True)
        # Q needs R ahead of what gave it the ring, and R needs Q.
        parts = {"P": "Q", "Q": "(sum R P)", "R": "(times 0 S)", "S": "(if 1 T Q)", "T": "(times Q 0)"}
        two, zero = ("ring", ("P", "Q")), ("number", 0)
        rows = [("?", (("P", two),), two), ("P", (("Q", two),), two), ("Q", (("R", zero), ("P", two)), two),
                ("R", (("S", zero),), zero), ("S", (("T", zero),), zero), ("T", (("Q", zero),), zero)]
        self.look(parts, "P", ("ring", ("P", "Q"), rows), False)

    def test_long_ways_to_rings(self):
        parts = terms_of({"F": "(def n (if n (sum (call F (less n 1)) 1) R))", "R": "(sum 1 (first (pair S 1)))",
                          "S": "(sum 1 R)", "G": "(def n (let k (call G (less n 1)) (if n (sum k 1) R)))"})
        for text in ("(call F 500)", "(call G 350)"):
            kind, what, rows = paper_of(parts, Term(text), most=5000)
            self.assertEqual((kind, what), ("ring", ("R", "R.1", "S")))
            self.assertIs(holds(parts, Term(text), (kind, what, rows)), True)
            self.assertIs(holds(parts, Term(text), (kind, what, rows[::-1])), True)
            self.assertIs(holds(parts, Term(text), (kind, what, rows[:-1])), False)
        # A ring that is itself long: each knot K.1 needs the next one's, and the last one the first.
        parts = terms_of({"P": "(call G 400)", "G": "(def n (let k (call G (less n 1)) (if n (sum k 1) P)))"})
        kind, what, rows = paper_of(parts, Term("P"), most=5000)
        self.assertEqual((kind, len(what), what[0]), ("ring", 401, "P"))
        self.assertIs(holds(parts, Term("P"), (kind, what, rows)), True)
        self.assertIs(holds(parts, Term("P"), (kind, what[1:] + what[:1], rows)), False)


class BottomTest(unittest.TestCase):
    """By at most 5,000 knots; that of a word is odd, as each pair takes two more."""

    def look(self, many, behind, truth, kind):
        """Check what is said of a paper of (pair 1 (pair 1 .. so many times, with a doubled pair and more behind it."""
        text = "(pair 1 1)"
        for small in "abcdefghij":
            text = f"(let {small} {text} (pair {small} {small}))"
        # The doubled one takes 2 ** 12 - 1 knots.
        body = behind.replace("X", text)
        parts = terms_of({"N": f"(def n (if n (pair 1 (call N (less n 1))) {body}))"})
        term = Term(f"(call N {many})")
        paper = paper_of(parts, term, most=20000)
        self.assertEqual(paper[0], kind)
        self.assertIs(holds(parts, term, paper), truth)
        self.assertIs(holds(parts, term, ("word", "1", paper[2])), False)

    def test_a_word(self):
        # 4,095 + 2 * 452 = 4,999.
        self.look(452, "X", True, "word")
        self.look(453, "X", False, "word")

    def test_no_word(self):
        # The doubled one, its pair, one more pair, and what stands first in that: 4,095 + 3 + 2 * 451 = 5,000.
        for first in ("(first 1)", "(def x x)", "(sum 1 (call N (pair 1 1)))"):
            self.look(451, f"(pair X (pair {first} 1))", True, "fault")
            self.look(452, f"(pair X (pair {first} 1))", False, "fault")

    def test_without_end(self):
        parts = terms_of({"P": "(pair 1 P)", "Q": "(pair Q Q)", "R": "(pair R 1)"})
        for name, first, second in (("P", ("number", 1), None), ("Q", None, None), ("R", None, ("number", 1))):
            head = ("pair", name + ".1", name + ".2")
            rows = [("?", ((name, head),), head), (name, (), head)]
            for at, end in ((1, first), (2, second)):
                gots = ((name, head),) if end is None else ()
                rows.append((f"{name}.{at}", gots, end or head))
            for thing in (("word", "1", rows), ("open", None, rows), ("word", None, rows), ("word", "[1 1]", rows)):
                self.assertIs(holds(parts, Term(name), thing), False)
            # What is not read to the bottom may have no end.
            rows[0] = ("?", (), ("number", 3))
            self.assertIs(holds(parts, Term("3"), ("word", "3", rows)), True)


class ByChanceTest(unittest.TestCase):
    def test_told_ones_and_changed_ones(self):
        chance = random.Random(200)
        kinds, truths = [], []
        while len(kinds) < 200:
            texts = chance_parts(chance, chance.choice([6, 8]))
            text = chance_closed(chance, 3, chance.choice(["number", "pair"]))
            parts, term = terms_of(texts), Term(text)
            try:
                paper = paper_of(parts, term, most=300)
            except NoPaper:
                continue
            kinds.append(paper[0])
            self.assertIs(holds(parts, term, paper), True)
            self.assertIs(holds(chance.sample(parts, len(parts)), term, paper), True)
            for _ in range(8):
                other = self.changed(chance, paper, texts)
                others = {**texts, **chance_parts(chance, chance.randrange(3))}
                for rows in (texts, others):
                    truth = holds(terms_of(rows), term, other)
                    self.assertIs(truth, OtherLooker(rows, text, other).holds, (rows, text, other))
                    truths.append(truth)
                if truth:
                    # What it lets by is so.
                    told = plain(terms_of(others), term, most=5000)
                    self.assertEqual((told.kind, told.what), other[:2])
        for kind in ("word", "fault", "ring"):
            self.assertGreater(kinds.count(kind), 10, kind)
        self.assertGreater(truths.count(True), 300)
        self.assertGreater(truths.count(False), 1000)

    def changed(self, chance, paper, texts):
        """The paper with a row, a knot, an end or a got put otherwise, or with rows of other papers put in."""
        kind, what, rows = paper
        rows = chance.sample(rows, len(rows))
        deed = chance.choice(["drop", "end", "got", "both", "more", "more", "knot", "none"])
        at = chance.randrange(len(rows))
        knot, gots, end = rows[at]
        ends = [row[2] for row in rows] + [("number", 1), ("pair", "A", "B")]
        if deed == "drop":
            del rows[at]
        elif deed == "end":
            rows[at] = (knot, gots, chance.choice(ends))
        elif deed == "got" and gots:
            place = chance.randrange(len(gots))
            rows[at] = (knot, gots[:place] + ((gots[place][0], chance.choice(ends)),) + gots[place + 1:], end)
        elif deed == "both":
            other = chance.choice(ends)
            rows = [(row[0], tuple((needed, other if needed == knot else got) for needed, got in row[1]),
                     other if row[0] == knot else row[2]) for row in rows]
        elif deed == "knot":
            rows[at] = (chance.choice(rows)[0], gots, end)
        elif deed == "more":
            there = [row[0] for row in rows]
            for name in texts:
                try:
                    more = paper_of(terms_of(texts), Term(name), most=100)[2]
                except NoPaper:
                    continue
                rows += [row for row in more if row[0] not in there and row[0][0] != "?"]
                there = [row[0] for row in rows]
        return (kind, what, rows)


if __name__ == "__main__":
    unittest.main()
