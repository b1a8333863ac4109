"""Promises 2, 3 and 18: what lacks."""

import random
import unittest

from helper import chance_closed, chance_parts, terms_of
from unwritparts.errors import Loose, NoLack
from unwritparts.houses import House
from unwritparts.lacks import lack, wanted
from unwritparts.plain import plain
from unwritparts.tellings import Telling
from unwritparts.terms import Term


def made(**parts):
    return House(terms_of(parts))


def rows(told):
    """A lack with the rows of its tellings."""
    part, one, other = told
    return (part, str(one), str(other))


def stands(house):
    return (str(house), house.past(), house.done())


def terms(*texts):
    return [Term(text) for text in texts]


class LackTest(unittest.TestCase):
    def refused(self, error, field, value, deed):
        with self.assertRaises(error) as caught:
            deed()
        self.assertIs(type(caught.exception), error)
        self.assertEqual(getattr(caught.exception, field), value)

    def test_told(self):
        house = made(P="(sum Q (times R 2))", R="5", S="(pair R (pair Q T))", D="(def x (sum x U))")
        for text, told in (
            ("Z", ("Z", "ring Z 3 by Z", "word 0 3 by Z")),
            ("(sum Z Z)", ("Z", "ring Z 4 by Z", "word 0 5 by Z")),
            ("P", ("Q", "ring Q 5 by P Q", "word 10 9 by P Q R")),
            ("(sum 1 P)", ("Q", "ring Q 7 by P Q", "word 11 11 by P Q R")),
            ("S", ("Q", "ring Q 11 by Q R S", "waits T 13 by Q R S")),
            ("(call D 4)", ("U", "ring U 9 by D U", "word 4 9 by D U")),
            ("(first Z)", ("Z", "ring Z 4 by Z", "fault pair ? 4 by Z")),
            ("(if Z 1 Y)", ("Z", "ring Z 4 by Z", "waits Y 5 by Z")),
        ):
            with self.subTest(text):
                found = lack(house, Term(text))
                self.assertIs(type(found), tuple)
                self.assertTrue(all(type(telling) is Telling for telling in found[1:]))
                self.assertEqual(rows(found), told)
        self.assertEqual(house.parts(), made(P="(sum Q (times R 2))", R="5", S="(pair R (pair Q T))",
                                             D="(def x (sum x U))").parts())

    def test_most(self):
        house = made(P="(sum Q 1)")
        self.refused(NoLack, "kind", "open", lambda: lack(house, Term("P"), most=3))
        self.assertEqual(rows(lack(house, Term("P"), most=4)), ("Q", "open 4", "open 4"))
        self.assertEqual(rows(lack(house, Term("P"), most=5)), ("Q", "ring Q 5 by P Q", "open 5"))
        self.assertEqual(rows(lack(house, Term("P"), most=6)), ("Q", "ring Q 5 by P Q", "word 1 6 by P Q"))

    def test_the_default_of_most(self):
        house = made(COUNT="(def n (if n (sum 1 (call COUNT (less n 1))) Z))")
        # Its steps are 9 n + 8 up to where it needs Z.
        self.assertEqual(rows(lack(house, Term("(call COUNT 110)"))),
                         ("Z", "ring Z 999 by COUNT Z", "word 110 999 by COUNT Z"))
        self.assertEqual(rows(lack(house, Term("(sum 1 (call COUNT 110))"))), ("Z", "open 1000", "open 1000"))
        term = Term("(let x 1 (sum 1 (call COUNT 110)))")
        self.refused(NoLack, "kind", "open", lambda: lack(house, term))
        self.assertEqual(rows(lack(house, term, most=1002)),
                         ("Z", "ring Z 1002 by COUNT Z", "word 111 1002 by COUNT Z"))

    def test_no_lack(self):
        house = made(P="(sum 1 2)", Q="Q", R="(first 1)", D="(def x x)")
        for text, kind in (("P", "word"), ("3", "word"), ("Q", "ring"), ("R", "fault"), ("D", "fault"),
                           ("(pair R Z)", "fault")):
            self.refused(NoLack, "kind", kind, lambda: lack(house, Term(text)))
        self.refused(NoLack, "kind", "open", lambda: lack(house, Term("P"), most=4))

    def test_loose_comes_first(self):
        house = made(P="1")
        self.refused(Loose, "names", ("x", "y"), lambda: lack(house, Term("(sum y x)")))
        self.refused(Loose, "names", ("x",), lambda: lack(house, Term("(sum P x)"), most=1))
        self.refused(Loose, "names", ("x",), lambda: lack(house, Term("(sum Z x)")))

    def test_at_sixty_parts(self):
        names = [f"P{chr(65 + at // 26)}{chr(65 + at % 26)}" for at in range(60)]
        house = House([(name, Term("(sum Z 1)")) for name in names])
        self.assertEqual(rows(lack(house, Term(names[0]))), ("Z", "ring Z 5 by PAA Z", "word 1 6 by PAA Z"))
        self.assertEqual(wanted(house, [Term(name) for name in names[:30]]), [("Z", 30)])
        self.assertEqual(len(house), 60)

    def test_arguments(self):
        house = made(P="(sum Q 1)")
        self.assertEqual(lack(house, Term("P")), lack(term=Term("P"), house=house))
        self.assertEqual(lack(house, Term("P"), most=5), lack(most=5, term=Term("P"), house=house))
        self.assertEqual(wanted(house, terms("P")), wanted(terms=terms("P"), house=house))
        for asked, thing in ((lack, Term("P")), (wanted, terms("P"))):
            with self.assertRaises(TypeError):
                asked(house, thing, 5)

    def test_they_change_nothing(self):
        house = made(P="(sum Q (times R 2))", R="(sum 2 3)")
        house.write("S", Term("(sum P R)"))
        asked = terms("P", "S", "P")
        for _ in range(2):
            before = stands(house)
            lack(house, Term("S"))
            lack(house, Term("Q"), most=2)
            wanted(house, asked)
            self.assertEqual(stands(house), before)
            self.assertEqual(asked, terms("P", "S", "P"))
            house.tell(Term("P"))
        # ? 1; sum, Q: what was lacking or wanted was not done for the house.
        self.assertEqual(house.done(), 3)
        lack(house, Term("P"))
        house.write("Q", Term("0"))
        # Q 1; times, R, 2; R 3: nothing of what the lack tells of this writing is kept.
        house.tell(Term("P"))
        self.assertEqual(house.done(), 10)

    def test_behind_deeds(self):
        house = made(P="(sum Q 1)")
        house.tell(Term("P"))
        house.write("Q", Term("R"))
        self.assertEqual(lack(house, Term("P"))[0], "R")
        house.strike("P")
        self.assertEqual(lack(house, Term("P"))[0], "P")
        house.back()
        house.back()
        self.assertEqual(lack(house, Term("P"))[0], "Q")

    def test_by_chance(self):
        chance = random.Random(180)
        kinds = []
        for _ in range(800):
            parts = terms_of(chance_parts(chance, 5))
            house, term = House(parts), Term(chance_closed(chance, 3, chance.choice(["number", "pair"])))
            told = house.tell(term, most=400)
            kinds.append(told.kind)
            if told.kind != "waits":
                self.refused(NoLack, "kind", told.kind, lambda: lack(house, term, most=400))
                continue
            part, one, other = lack(house, term, most=400)
            self.assertEqual(part, told.what)
            self.assertEqual(one, plain(parts + [(part, Term(part))], term, most=400))
            self.assertEqual(other, plain(parts + [(part, Term("0"))], term, most=400))
            self.assertEqual((one.kind, one.what), ("ring", (part,)))
        self.assertGreater(kinds.count("waits"), 100)
        self.assertGreater(len(kinds) - kinds.count("waits"), 100)


class WantedTest(unittest.TestCase):
    def test_none(self):
        house = made(P="1", Q="Q")
        for asked in ([], terms("P"), terms("Q", "3", "(first 1)", "(def x x)", "(pair 1 2)")):
            told = wanted(house, asked)
            self.assertIs(type(told), list)
            self.assertEqual(told, [])

    def test_many(self):
        house = made(P="(sum Q 1)", S="(sum P 1)", T="(pair 1 R)")
        self.assertEqual(wanted(house, terms("P")), [("Q", 1)])
        self.assertEqual(wanted(house, terms("P", "P")), [("Q", 2)])
        self.assertEqual(wanted(house, terms("T", "P", "S", "3", "(sum 1 P)", "T")), [("Q", 3), ("R", 2)])
        self.assertEqual(wanted(house, terms("P", "(sum Q R)", "(sum R Q)", "R", "R", "(pair R Q)")),
                         [("R", 4), ("Q", 2)])

    def test_order(self):
        house = made()
        self.assertEqual(wanted(house, terms("Z", "AB", "A", "B", "AA")),
                         [("A", 1), ("AA", 1), ("AB", 1), ("B", 1), ("Z", 1)])
        self.assertEqual(wanted(house, terms("B", "A", "Z", "B", "AA", "Z", "Q", "Q", "Q")),
                         [("Q", 3), ("B", 2), ("Z", 2), ("A", 1), ("AA", 1)])
        many = terms(*(["A"] * 2 + ["B"] * 11 + ["C"] * 11 + ["D"] * 6))
        self.assertEqual(wanted(house, many), [("B", 11), ("C", 11), ("D", 6), ("A", 2)])

    def test_most(self):
        house = made(P="(sum Q 1)")
        self.assertEqual(wanted(house, terms("P", "R"), most=4), [("Q", 1), ("R", 1)])
        self.assertEqual(wanted(house, terms("P", "R"), most=3), [("R", 1)])
        self.assertEqual(wanted(house, terms("P", "R"), most=1), [])
        house = made(COUNT="(def n (if n (sum 1 (call COUNT (less n 1))) Z))")
        asked = terms("(call COUNT 110)", "(sum 1 (call COUNT 110))", "(let x 1 (sum 1 (call COUNT 110)))")
        self.assertEqual(wanted(house, asked), [("Z", 2)])
        self.assertEqual(wanted(house, asked, most=1001), [("Z", 3)])

    def test_told_lists_are_the_askers(self):
        house = made()
        told = wanted(house, terms("A"))
        told.append(("B", 7))
        self.assertEqual(wanted(house, terms("A")), [("A", 1)])
        self.assertTrue(all(type(row) is tuple for row in wanted(house, terms("A", "B"))))


if __name__ == "__main__":
    unittest.main()
