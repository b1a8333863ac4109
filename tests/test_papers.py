"""Promises 2, 3 and 19: papers."""

import random
import unittest

from helper import OtherWalk, chance_closed, chance_parts, terms_of
from unwritparts.errors import Loose, NoPaper
from unwritparts.looker import holds
from unwritparts.papers import paper_of
from unwritparts.plain import plain
from unwritparts.terms import Term

TWO = ("ring", ("P", "Q"))
THREE = ("ring", ("A.2", "C", "B"))
DEF = ("def", "x", "(sum x y)", (("y", "F.1"),))

# Parts, a term, and its paper, by hand.
PAPERS = (
    # Words of numbers.
    ({}, "3", ("word", "3", [("?", (), ("number", 3))])),
    ({}, "(sum 1 2)", ("word", "3", [("?", (), ("number", 3))])),
    ({"P": "(sum 1 2)"}, "P", ("word", "3", [("?", (("P", ("number", 3)),), ("number", 3)), ("P", (), ("number", 3))])),
    # As often as it stands there; in the order in which they were first needed.
    ({"P": "(sum Q (times R Q))", "Q": "2", "R": "(sum Q 1)", "S": "7"}, "(sum R P)", ("word", "11", [
        ("?", (("R", ("number", 3)), ("P", ("number", 8))), ("number", 11)),
        ("R", (("Q", ("number", 2)),), ("number", 3)),
        ("Q", (), ("number", 2)),
        ("P", (("Q", ("number", 2)), ("R", ("number", 3)), ("Q", ("number", 2))), ("number", 8)),
    ])),
    # Only one branch is needed.
    ({"P": "(if 0 R S)", "S": "7"}, "P", ("word", "7", [
        ("?", (("P", ("number", 7)),), ("number", 7)),
        ("P", (("S", ("number", 7)),), ("number", 7)),
        ("S", (), ("number", 7)),
    ])),
    # Pairs, and the knots that are made.
    ({"P": "(pair 3 Q)", "Q": "4"}, "(pair 1 P)", ("word", "[1 [3 4]]", [
        ("?", (), ("pair", "?.1", "?.2")),
        ("?.1", (), ("number", 1)),
        ("?.2", (("P", ("pair", "P.1", "P.2")),), ("pair", "P.1", "P.2")),
        ("P", (), ("pair", "P.1", "P.2")),
        ("P.1", (), ("number", 3)),
        ("P.2", (("Q", ("number", 4)),), ("number", 4)),
        ("Q", (), ("number", 4)),
    ])),
    ({}, "(let x (sum 1 2) (pair x x))", ("word", "[3 3]", [
        ("?", (), ("pair", "?.2", "?.3")),
        ("?.2", (("?.1", ("number", 3)),), ("number", 3)),
        ("?.1", (), ("number", 3)),
        ("?.3", (("?.1", ("number", 3)),), ("number", 3)),
    ])),
    ({}, "(second (pair R (sum 1 1)))", ("word", "2", [
        ("?", (("?.2", ("number", 2)),), ("number", 2)), ("?.2", (), ("number", 2)),
    ])),
    # Defs.
    ({"F": "(let y 5 (def x (sum x y)))"}, "(call F 2)", ("word", "7", [
        ("?", (("F", DEF), ("?.1", ("number", 2)), ("F.1", ("number", 5))), ("number", 7)),
        ("F", (), DEF),
        ("?.1", (), ("number", 2)),
        ("F.1", (), ("number", 5)),
    ])),
    # Faults.
    ({}, "(first 1)", ("fault", ("pair", "?"), [("?", (), ("fault", "pair", "?"))])),
    ({"P": "(sum (pair 1 2) R)"}, "(sum 1 P)", ("fault", ("number", "P"), [
        ("?", (("P", ("fault", "number", "P")),), ("fault", "number", "P")), ("P", (), ("fault", "number", "P")),
    ])),
    ({}, "(times 1000000 1000001)", ("fault", ("great", "?"), [("?", (), ("fault", "great", "?"))])),
    ({"P": "(pair 1 (def x x))"}, "P", ("fault", ("told", "P.2"), [
        ("?", (("P", ("pair", "P.1", "P.2")),), ("pair", "P.1", "P.2")),
        ("P", (), ("pair", "P.1", "P.2")),
        ("P.1", (), ("number", 1)),
        ("P.2", (), ("def", "x", "x", ())),
    ])),
    # What stands behind the first that comes to no number and no pair is not needed.
    ({}, "(pair (call 1 2) R)", ("fault", ("def", "?.1"), [
        ("?", (), ("pair", "?.1", "?.2")), ("?.1", (), ("fault", "def", "?.1")),
    ])),
    # Rings.
    ({"P": "P"}, "P", ("ring", ("P",), [
        ("?", (("P", ("ring", ("P",))),), ("ring", ("P",))), ("P", (("P", ("ring", ("P",))),), ("ring", ("P",))),
    ])),
    ({"P": "(sum Q 1)", "Q": "(sum 1 P)", "R": "(times 2 Q)"}, "R", ("ring", ("P", "Q"), [
        ("?", (("R", TWO),), TWO), ("R", (("Q", TWO),), TWO), ("Q", (("P", TWO),), TWO), ("P", (("Q", TWO),), TWO),
    ])),
    ({"A": "(pair 0 (first C))", "B": "(second A)", "C": "(sum 1 B)"}, "(sum 1 B)", ("ring", ("A.2", "C", "B"), [
        ("?", (("B", THREE),), THREE),
        ("B", (("A", ("pair", "A.1", "A.2")), ("A.2", THREE)), THREE),
        ("A", (), ("pair", "A.1", "A.2")),
        ("A.2", (("C", THREE),), THREE),
        ("C", (("B", THREE),), THREE),
    ])),
    # What was needed ahead of the ring.
    ({"P": "(sum (times Q Q) P)", "Q": "2"}, "(pair Q P)", ("ring", ("P",), [
        ("?", (), ("pair", "?.1", "?.2")),
        ("?.1", (("Q", ("number", 2)),), ("number", 2)),
        ("Q", (), ("number", 2)),
        ("?.2", (("P", ("ring", ("P",))),), ("ring", ("P",))),
        ("P", (("Q", ("number", 2)), ("Q", ("number", 2)), ("P", ("ring", ("P",)))), ("ring", ("P",))),
    ])),
)
COUNT = "(def n (if n (sum 1 (call COUNT (less n 1))) 0))"


def refused(test, error, field, value, deed):
    with test.assertRaises(error) as caught:
        deed()
    test.assertIs(type(caught.exception), error)
    test.assertEqual(getattr(caught.exception, field), value)


class PaperTest(unittest.TestCase):
    def test_told(self):
        for parts, text, paper in PAPERS:
            with self.subTest(text=text):
                told = paper_of(terms_of(parts), Term(text))
                self.assertEqual(told, paper)
                self.assertEqual(repr(told), repr(paper))

    def test_it_stands_where_its_telling_does(self):
        for parts, text, (kind, what, rows) in PAPERS:
            parts, term = terms_of(parts), Term(text)
            told = plain(parts, term)
            self.assertEqual((kind, what), (told.kind, told.what))
            needed = [row for row in parts if row[0] in told.known]
            self.assertEqual(sorted(knot for knot, _, _ in rows if knot.isalpha()), list(told.known))
            self.assertEqual(paper_of(needed, term), (kind, what, rows))
            self.assertEqual(paper_of(needed[::-1] + [("ZZZ", Term("(sum ZZZ 1)"))], term), (kind, what, rows))

    def test_most(self):
        for parts, text, paper in PAPERS:
            parts, term = terms_of(parts), Term(text)
            steps = plain(parts, term).steps
            self.assertEqual(paper_of(parts, term, most=steps), paper)
            refused(self, NoPaper, "kind", "open", lambda: paper_of(parts, term, most=steps - 1))
            self.assertEqual(paper_of(parts, term, most=5000), paper)

    def test_the_default_of_most(self):
        parts = terms_of({"COUNT": COUNT})
        self.assertEqual(paper_of(parts, Term("(sum 1 (call COUNT 110))"))[:2], ("word", "111"))
        term = Term("(let x 1 (sum 1 (call COUNT 110)))")
        refused(self, NoPaper, "kind", "open", lambda: paper_of(parts, term))
        self.assertEqual(paper_of(parts, term, most=1001)[:2], ("word", "111"))

    def test_no_paper(self):
        parts = terms_of({"P": "(sum Q 1)", "W": "(call (def f (call f f)) (def f (call f f)))"})
        for text in ("P", "R", "(pair 1 (pair R (first 1)))", "(sum 1 P)"):
            refused(self, NoPaper, "kind", "waits", lambda: paper_of(parts, Term(text)))
        for most in (1, 1000, 5000):
            refused(self, NoPaper, "kind", "open", lambda: paper_of(parts, Term("W"), most=most))
        refused(self, NoPaper, "kind", "open", lambda: paper_of(parts, Term("P"), most=3))

    def test_loose_comes_first(self):
        parts = terms_of({"P": "1"})
        refused(self, Loose, "names", ("x", "y"), lambda: paper_of(parts, Term("(sum y x)")))
        refused(self, Loose, "names", ("x",), lambda: paper_of(parts, Term("(pair Z x)"), most=1))

    def test_arguments(self):
        parts, term = terms_of({"P": "(sum Q 1)", "Q": "2"}), Term("P")
        self.assertEqual(paper_of(parts, term), paper_of(term=term, parts=parts))
        self.assertEqual(paper_of(parts, term, most=6), paper_of(most=6, term=term, parts=parts))
        with self.assertRaises(TypeError):
            paper_of(parts, term, 6)

    def test_told_lists_are_the_askers(self):
        parts, term = terms_of({"P": "(sum Q 1)", "Q": "2"}), Term("P")
        before = list(parts)
        first = paper_of(parts, term)
        self.assertEqual((parts, term), (before, Term("P")))
        self.assertIs(type(first), tuple)
        self.assertIs(type(first[2]), list)
        for row in first[2]:
            self.assertEqual([type(thing) for thing in row], [str, tuple, tuple])
        second = paper_of(parts, term)
        first[2].clear()
        parts.clear()
        self.assertEqual(len(second[2]), 3)
        self.assertEqual(second, paper_of(before, term))

    def test_deep(self):
        for text, many in (("(call COUNT 554)", 557), ("(call (call ADD 409) 0)", 822), ("(call DOWN 453)", 909)):
            parts = terms_of({
                "COUNT": COUNT,
                "ADD": "(def n (def a (if n (call (call ADD (less n 1)) (sum a n)) a)))",
                "DOWN": "(def n (if n (let k (call DOWN (less n 1)) (sum k 1)) 0))",
            })
            paper = paper_of(parts, Term(text), most=5000)
            self.assertEqual(len(paper[2]), many)
            self.assertIs(holds(parts, Term(text), paper), True)

    def test_by_chance(self):
        chance = random.Random(19)
        kinds = []
        for _ in range(800):
            texts = chance_parts(chance, chance.choice([5, 7, 8]))
            parts, text = terms_of(texts), chance_closed(chance, 3, chance.choice(["number", "pair"]))
            told = plain(parts, Term(text), most=300)
            kinds.append(told.kind)
            if not told.is_sure():
                refused(self, NoPaper, "kind", told.kind, lambda: paper_of(parts, Term(text), most=300))
                continue
            kind, what, rows = paper_of(parts, Term(text), most=300)
            self.assertEqual((kind, what), (told.kind, told.what))
            self.check(rows, {**texts, "?": text}, told)
        for kind in ("word", "fault", "ring", "waits"):
            self.assertGreater(kinds.count(kind), 20, kind)

    def check(self, rows, texts, told):
        """Check that each row is what the other way of walking makes of it, in the order in which they were needed."""
        senses = {knot: (text, ()) for knot, text in texts.items()}
        ends = {knot: end for knot, _, end in rows}
        self.assertEqual(len(ends), len(rows))
        self.assertEqual(sorted(knot for knot in ends if knot.isalpha()), list(told.known))
        steps = 0
        gots_of = {}
        for knot, gots, end in sorted(rows, key=lambda row: row[0].count(".")):
            walk = OtherWalk(knot, Term(senses[knot][0]), senses[knot][1], [got for _, got in gots])
            self.assertEqual((walk.needs, walk.end), ([needed for needed, _ in gots], end))
            self.assertTrue(all(ends[needed] == got for needed, got in gots))
            senses.update({made: (text, names) for made, text, names in walk.made})
            gots_of[knot] = [needed for needed, _ in gots]
            steps += walk.steps
        order = []
        bottoms = self.read(order, gots_of, ends)
        self.assertEqual([knot for knot, _, _ in rows], order)
        self.assertEqual(told.steps, steps + bottoms)

    def read(self, order, gots_of, ends):
        """Put the knots down as they are first needed; how many were read to the bottom."""
        ahead, bottoms = ["?"], 0
        while ahead:
            knot = ahead.pop()
            bottoms += 1
            self.need(knot, order, gots_of)
            if ends[knot][0] == "pair":
                ahead.extend([ends[knot][2], ends[knot][1]])
            elif ends[knot][0] != "number":
                break
        return bottoms

    def need(self, knot, order, gots_of):
        if knot not in order:
            order.append(knot)
            for needed in gots_of[knot]:
                self.need(needed, order, gots_of)


if __name__ == "__main__":
    unittest.main()
