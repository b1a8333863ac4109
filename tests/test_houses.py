"""Promises 2, 3, 14 and 15: houses."""

import random
import unittest

from helper import KINDS, chance_closed, chance_part, chance_parts, terms_of
from unwritparts.errors import Bare, Full, Loose, NoName, NoPart, Written
from unwritparts.houses import House
from unwritparts.plain import MOST, plain
from unwritparts.tellings import Telling
from unwritparts.terms import Term

ONE = Term("(sum Q 1)")
TWO = Term("2")
LOOSE = Term("(sum y (pair x (let z y z)))")
NO_NAMES = (
    "", "p", "Pq", "ABCDEFG", "P1", "P.1", "?", "P Q", " P", "P\n", "\u00c4", 0, 1, -7, 10 ** 59, True, False, None, [],
    (), ["P"], ("P",), [["P", [1, (None, True)]]], ("P", ["Q"]),
)


def named(many):
    """So many names of parts, sorted."""
    return [f"P{chr(65 + at // 26)}{chr(65 + at % 26)}" for at in range(many)]


def stands(house):
    """All that a house tells of how it stands."""
    return (str(house), house.parts(), house.past(), house.done(), len(house), repr(house))


class HouseTest(unittest.TestCase):
    def refused(self, house, error, field, value, deed):
        """Check that a deed is refused so, and that nothing is changed by it."""
        before = stands(house)
        with self.assertRaises(error) as caught:
            deed()
        self.assertIs(type(caught.exception), error)
        if field is not None:
            self.assertEqual(repr(getattr(caught.exception, field)), repr(value))
        self.assertEqual(stands(house), before)

    def test_write_and_strike(self):
        house = House()
        self.assertIs(house.write("P", ONE), None)
        self.assertIs(house.write("ABCDEF", TWO), None)
        self.assertEqual(house.parts(), [("ABCDEF", TWO), ("P", ONE)])
        self.assertIs(house.write("P", TWO), None)
        self.assertEqual(house.parts(), [("ABCDEF", TWO), ("P", TWO)])
        self.assertIs(house.strike("ABCDEF"), None)
        self.assertEqual(house.parts(), [("P", TWO)])
        self.assertIs(house.strike("P"), None)
        self.assertEqual(house.parts(), [])

    def test_new(self):
        house = House()
        house.write("P", ONE, new=True)
        self.refused(house, Written, "name", "P", lambda: house.write("P", TWO, new=True))
        self.refused(house, Written, "name", "P", lambda: house.write("P", ONE, new=True))
        house.write("P", TWO, new=False)
        house.write("P", ONE)
        house.strike("P")
        house.write("P", TWO, new=True)
        self.assertEqual(house.parts(), [("P", TWO)])
        house.back()
        house.write("P", ONE, new=True)
        self.assertEqual(len(house.past()), 5)

    def test_no_name(self):
        house = House([("P", ONE)])
        for thing in NO_NAMES:
            with self.subTest(thing):
                self.refused(house, NoName, "name", thing, lambda: house.write(thing, TWO))

    def test_loose(self):
        house = House([("P", ONE)])
        for name in ("P", "Q"):
            self.refused(house, Loose, "names", ("x", "y"), lambda: house.write(name, LOOSE))
        self.refused(house, Loose, "names", ("abcd",), lambda: house.write("P", Term("abcd")))
        self.refused(house, Loose, "names", ("x", "y"), lambda: house.tell(LOOSE))
        self.refused(house, Loose, "names", ("x",), lambda: house.tell(Term("(pair 1 x)"), most=1))

    def test_full(self):
        names = named(61)
        for house in (House([(name, ONE) for name in names[:60]]), House()):
            for name in names[:60]:
                house.write(name, ONE)
            self.assertEqual(len(house), 60)
            self.refused(house, Full, "most", 60, lambda: house.write(names[60], ONE))
            self.refused(house, Full, "most", 60, lambda: house.write(names[60], ONE, new=True))
            house.write(names[7], TWO)
            house.strike(names[8])
            house.write(names[60], ONE)
            self.refused(house, Full, "most", 60, lambda: house.write(names[8], ONE))
            house.back()
            house.back()
            self.assertEqual([name for name, _ in house.parts()], names[:60])
            self.refused(house, Full, "most", 60, lambda: house.write(names[60], ONE))

    def test_no_part(self):
        house = House([("P", ONE)])
        for thing in NO_NAMES + ("Q", "PP"):
            with self.subTest(thing):
                self.refused(house, NoPart, "name", thing, lambda: house.strike(thing))
                self.refused(house, NoPart, "name", thing, lambda: house.term_of(thing))
        house.strike("P")
        self.refused(house, NoPart, "name", "P", lambda: house.strike("P"))
        self.refused(house, NoPart, "name", "P", lambda: house.term_of("P"))

    def test_no_list_is_kept_by_a_refusal(self):
        house, thing = House(), ["P", ["Q"]]
        for deed in (lambda: house.write(thing, ONE), lambda: house.strike(thing), lambda: house.term_of(thing)):
            with self.assertRaises((NoName, NoPart)) as caught:
                deed()
            thing[1].append("R")
            self.assertEqual(caught.exception.name, ["P", ["Q"]])
            thing[1].pop()

    def test_the_first_of_several_refusals(self):
        names = named(61)
        house = House([(name, ONE) for name in names[:60]])
        write = house.write
        self.refused(house, NoName, "name", "p", lambda: write("p", LOOSE))
        self.refused(house, NoName, "name", "p", lambda: write("p", LOOSE, new=True))
        self.refused(house, NoName, "name", [], lambda: write([], ONE, new=True))
        self.refused(house, Loose, "names", ("x", "y"), lambda: write(names[0], LOOSE, new=True))
        self.refused(house, Loose, "names", ("x", "y"), lambda: write(names[60], LOOSE))
        self.refused(house, Loose, "names", ("x", "y"), lambda: write(names[60], LOOSE, new=True))
        self.refused(house, Written, "name", names[0], lambda: write(names[0], ONE, new=True))

    def test_back(self):
        house = House([("P", ONE)])
        self.refused(house, Bare, None, None, house.back)
        deeds = [("write", "Q", "2"), ("write", "P", "2"), ("write", "P", "2"), ("strike", "P"),
                 ("write", "P", "(sum Q 1)"), ("strike", "Q"), ("write", "Q", "(sum Q 1)")]
        rows = []
        for deed in deeds:
            rows.append(str(house))
            if deed[0] == "write":
                house.write(deed[1], Term(deed[2]))
            else:
                house.strike(deed[1])
        self.assertEqual(house.past(), deeds)
        for many in range(len(deeds) - 1, -1, -1):
            told = house.back()
            self.assertEqual(told, deeds[many])
            self.assertIs(type(told), tuple)
            self.assertEqual(house.past(), deeds[:many])
            self.assertEqual(str(house), rows[many])
        self.refused(house, Bare, None, None, house.back)
        self.assertEqual(house.parts(), [("P", ONE)])

    def test_deeds_behind_back(self):
        house = House()
        house.write("P", ONE)
        house.write("P", TWO)
        self.assertEqual(house.back(), ("write", "P", "2"))
        self.assertEqual(house.term_of("P"), ONE)
        house.strike("P")
        self.assertEqual(house.past(), [("write", "P", "(sum Q 1)"), ("strike", "P")])
        self.assertEqual(house.back(), ("strike", "P"))
        self.assertEqual(house.back(), ("write", "P", "(sum Q 1)"))
        self.assertEqual((house.parts(), house.past()), ([], []))

    def test_a_write_of_what_stands_there_is_a_deed(self):
        house = House([("P", ONE)])
        house.write("P", Term("(sum Q 1)"))
        self.assertEqual(house.past(), [("write", "P", "(sum Q 1)")])
        self.assertEqual(house.back(), ("write", "P", "(sum Q 1)"))
        self.assertEqual(house.parts(), [("P", ONE)])

    def test_made_of_parts(self):
        rows = [("Q", TWO), ("P", ONE)]
        for parts in (rows, tuple(rows)):
            house = House(parts)
            self.assertEqual(house.parts(), [("P", ONE), ("Q", TWO)])
            self.assertEqual((house.past(), house.done()), ([], 0))
        house = House(rows)
        rows.append(("R", ONE))
        rows[0] = ("Q", ONE)
        self.assertEqual(house.parts(), [("P", ONE), ("Q", TWO)])
        house.write("S", TWO)
        self.assertEqual(rows, [("Q", ONE), ("P", ONE), ("R", ONE)])
        self.assertEqual(House(parts=[("P", ONE)]).parts(), [("P", ONE)])
        for empty in (House(), House([]), House(()), House(parts=())):
            self.assertEqual((empty.parts(), empty.past()), ([], []))

    def test_told_lists_are_the_askers(self):
        house = House([("P", ONE)])
        house.write("Q", TWO)
        for told in (house.parts, house.past):
            before = list(told())
            self.assertIs(type(told()), list)
            told().append("what")
            told().clear()
            self.assertEqual(told(), before)
        self.assertTrue(all(type(row) is tuple for row in house.parts() + house.past()))
        self.assertEqual(house.back(), ("write", "Q", "2"))

    def test_parts_are_sorted(self):
        names = ["Z", "AB", "A", "B", "ABC", "AA"]
        house = House([(name, ONE) for name in names[:3]])
        for name in names[3:]:
            house.write(name, TWO)
        self.assertEqual([name for name, _ in house.parts()], ["A", "AA", "AB", "ABC", "B", "Z"])
        self.assertEqual(str(house), "A (sum Q 1)\nAA 2\nAB (sum Q 1)\nABC 2\nB 2\nZ (sum Q 1)\n")

    def test_term_of(self):
        house = House([("P", ONE), ("Q", TWO)])
        self.assertEqual((house.term_of("P"), house.term_of(name="Q")), (ONE, TWO))
        self.assertIsInstance(house.term_of("P"), Term)

    def test_len_str_repr_truth(self):
        house = House()
        self.assertEqual((len(house), str(house), repr(house), bool(house)), (0, "", "House(0 parts)", False))
        house.write("P", ONE)
        self.assertEqual((len(house), str(house), repr(house)), (1, "P (sum Q 1)\n", "House(1 part)"))
        self.assertIs(bool(house), True)
        house.write("A", TWO)
        self.assertEqual((len(house), str(house), repr(house)), (2, "A 2\nP (sum Q 1)\n", "House(2 parts)"))
        self.assertEqual(repr(House([(name, ONE) for name in named(11)])), "House(11 parts)")

    def test_equal_to_itself_alone(self):
        house = House([("P", ONE)])
        self.assertIs(house == house, True)
        self.assertIs(house != house, False)
        for other in (House([("P", ONE)]), house.twin(), House(), "P (sum Q 1)\n", [("P", ONE)], None, True, 1, ONE):
            self.assertIs(house == other, False)
            self.assertIs(house != other, True)
        other = house
        other.write("Q", TWO)
        house.tell(TWO)
        self.assertEqual(house, other)
        self.assertIs(House() == House(), False)

    def test_arguments(self):
        house = House()
        house.write(term=ONE, name="P")
        house.write("Q", new=True, term=TWO)
        self.assertEqual(house.tell(term=Term("P")), house.tell(Term("P")))
        self.assertEqual(house.tell(most=3, term=Term("P")), house.tell(Term("P"), most=3))
        house.strike(name="Q")
        self.assertEqual(house.parts(), [("P", ONE)])
        with self.assertRaises(TypeError):
            house.write("P", TWO, True)
        with self.assertRaises(TypeError):
            house.tell(TWO, 3)
        self.assertEqual(house.parts(), [("P", ONE)])


class TellTest(unittest.TestCase):
    def check(self, house, text, most=None):
        """Check that the house tells the term as plain does of its parts; the telling."""
        before = (str(house), house.past())
        if most is None:
            told, other = house.tell(Term(text)), plain(house.parts(), Term(text))
        else:
            told, other = house.tell(Term(text), most=most), plain(house.parts(), Term(text), most=most)
        self.assertIsInstance(told, Telling)
        self.assertEqual(
            (told.kind, told.what, told.steps, told.known), (other.kind, other.what, other.steps, other.known)
        )
        self.assertEqual((str(house), house.past()), before)
        return str(told)

    def test_behind_each_deed(self):
        house = House()
        self.assertEqual(self.check(house, "P"), "waits P 2")
        house.write("P", Term("(sum Q 1)"))
        self.assertEqual(self.check(house, "P"), "waits Q 4 by P")
        house.write("Q", Term("(sum P 1)"))
        self.assertEqual(self.check(house, "P"), "ring P Q 6 by P Q")
        self.assertEqual(self.check(house, "Q"), "ring P Q 6 by P Q")
        house.write("Q", Term("7"))
        self.assertEqual(self.check(house, "P"), "word 8 6 by P Q")
        self.assertEqual(self.check(house, "Q"), "word 7 3 by Q")
        house.write("P", Term("(pair Q Q)"))
        self.assertEqual(self.check(house, "P"), "word [7 7] 8 by P Q")
        house.write("Q", Term("(def x x)"))
        self.assertEqual(self.check(house, "P"), "fault told P.1 6 by P Q")
        house.strike("Q")
        self.assertEqual(self.check(house, "P"), "waits Q 5 by P")
        house.back()
        self.assertEqual(self.check(house, "P"), "fault told P.1 6 by P Q")
        house.back()
        self.assertEqual(self.check(house, "P"), "word [7 7] 8 by P Q")
        house.back()
        self.assertEqual(self.check(house, "P"), "word 8 6 by P Q")
        house.back()
        self.assertEqual(self.check(house, "P"), "ring P Q 6 by P Q")
        house.back()
        house.back()
        self.assertEqual(self.check(house, "P"), "waits P 2")

    def test_most(self):
        house = House(terms_of({"P": "(sum Q (sum Q 1))", "Q": "(times 3 4)"}))
        for most in [3, 8, 7, 11, 10, 12, 9, 1, 2, 5, 13, 10, 11, 5000]:
            # A bottom, P, five of P itself and three of Q.
            row = f"open {most}" if most < 10 else "word 25 10 by P Q"
            self.assertEqual(self.check(house, "P", most), row)

    def test_the_default_of_most(self):
        house = House(terms_of({"COUNT": "(def n (if n (sum 1 (call COUNT (less n 1))) 0))"}))
        self.assertEqual(MOST, 1000)
        self.assertEqual(self.check(house, "(sum 1 (call COUNT 110))"), "word 111 1000 by COUNT")
        self.assertEqual(self.check(house, "(let x 1 (sum 1 (call COUNT 110)))"), "open 1000")
        self.assertEqual(self.check(house, "(let x 1 (sum 1 (call COUNT 110)))", 1001), "word 111 1001 by COUNT")
        self.assertEqual(self.check(house, "(let x 1 (sum 1 (call COUNT 110)))"), "open 1000")

    def test_deep(self):
        house = House(terms_of({
            "COUNT": "(def n (if n (sum K (call COUNT (less n 1))) 0))", "K": "1",
            "RIGHT": "(def n (if n (pair n (call RIGHT (less n 1))) 0))",
        }))
        for text in ("(call COUNT 500)", "(call RIGHT 450)"):
            for _ in range(2):
                self.assertEqual(self.check(house, text, 5000).split()[0], "word")
        house.write("K", Term("2"))
        self.assertEqual(self.check(house, "(call COUNT 500)", 5000), "word 1000 4509 by COUNT K")
        house.write("COUNT", Term("(def n (sum 1 (call COUNT n)))"))
        for most in (5000, 4999, 5000):
            self.assertEqual(self.check(house, "(call COUNT 500)", most), f"open {most}")

    def test_by_chance_behind_any_deeds(self):
        chance = random.Random(15)
        kinds = []
        for _ in range(60):
            house = House(terms_of(chance_parts(chance, 8)))
            texts = ["A", "B"] + [chance_closed(chance, 3, chance.choice(["number", "pair"])) for _ in range(4)]
            for _ in range(25):
                name = chance.choice(sorted(KINDS))
                deed = chance.choice(["write", "write", "strike", "back", "twin", "none"])
                if deed == "write":
                    house.write(name, Term(chance_part(chance, name, chance.randrange(4))))
                elif deed == "strike" and name in dict(house.parts()):
                    house.strike(name)
                elif deed == "back" and house.past():
                    house.back()
                elif deed == "twin":
                    house = house.twin()
                kinds.append(self.check(house, chance.choice(texts), chance.choice([1000, 400, 30, 12])).split()[0])
        for kind in ("word", "fault", "ring", "waits", "open"):
            self.assertGreater(kinds.count(kind), 50, kind)


class TwinTest(unittest.TestCase):
    def test_stands_as_its_house(self):
        house = House(terms_of({"P": "(sum Q 1)"}))
        house.write("Q", Term("4"))
        house.strike("P")
        house.back()
        house.tell(Term("P"))
        twin = house.twin()
        self.assertIsInstance(twin, House)
        self.assertEqual(stands(twin), stands(house))
        self.assertEqual(twin.past(), [("write", "Q", "4")])
        self.assertEqual(twin.back(), ("write", "Q", "4"))
        self.assertEqual(house.past(), [("write", "Q", "4")])
        self.assertEqual((str(house), str(twin)), ("P (sum Q 1)\nQ 4\n", "P (sum Q 1)\n"))

    def test_each_goes_on_by_itself(self):
        house = House(terms_of({"P": "(sum Q 1)", "Q": "4"}))
        twin = house.twin()
        twin.write("Q", Term("7"))
        house.strike("P")
        other = twin.twin()
        other.write("R", ONE)
        self.assertEqual([str(one) for one in (house, twin, other)],
                         ["Q 4\n", "P (sum Q 1)\nQ 7\n", "P (sum Q 1)\nQ 7\nR (sum Q 1)\n"])
        self.assertEqual([len(one.past()) for one in (house, twin, other)], [1, 1, 2])
        self.assertEqual([str(one.tell(Term("P"))) for one in (house, twin, other)],
                         ["waits P 2", "word 8 6 by P Q", "word 8 6 by P Q"])


if __name__ == "__main__":
    unittest.main()
