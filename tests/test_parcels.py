"""Promises 2, 3 and 21: parcels."""

import random
import unittest

from helper import KINDS, chance_closed, chance_parts, terms_of
from unwritparts.errors import NoParcel
from unwritparts.houses import House
from unwritparts.parcels import house_of, parcel_of
from unwritparts.terms import Term


def named(many):
    """So many names of parts, sorted."""
    return [f"P{chr(65 + at // 26)}{chr(65 + at % 26)}" for at in range(many)]


def deep(many):
    """A term with so many brackets open at once."""
    return "(first " * many + "1" + ")" * many


class ParcelTest(unittest.TestCase):
    def test_of_a_house(self):
        house = House()
        self.assertEqual(parcel_of(house), b"")
        house.write("P", Term("(sum Q 1)"))
        self.assertEqual(parcel_of(house), b"P (sum Q 1)\n")
        house.write("AB", Term("-7"))
        house.write("A", Term("(def x (pair x P))"))
        house.write("B", Term("(let abcd 1 abcd)"))
        told = parcel_of(house)
        self.assertIs(type(told), bytes)
        self.assertEqual(told, b"A (def x (pair x P))\nAB -7\nB (let abcd 1 abcd)\nP (sum Q 1)\n")
        self.assertEqual(told.decode("ascii"), str(house))
        self.assertEqual(parcel_of(house=house), told)
        self.assertEqual(len(house.past()), 4)

    def test_the_house_of_a_parcel(self):
        house = House()
        for name, text in (("P", "(sum Q 1)"), ("Q", "(times 2 2)"), ("R", "9"), ("P", "(sum Q 2)")):
            house.write(name, Term(text))
        house.strike("R")
        house.tell(Term("P"))
        self.assertEqual(house.done(), 7)
        parcel = parcel_of(house)
        other = house_of(parcel)
        self.assertIs(type(other), House)
        self.assertEqual((other.parts(), other.past(), other.done()), (house.parts(), [], 0))
        self.assertEqual(repr(other), "House(2 parts)")
        self.assertEqual(str(other.tell(Term("P"))), "word 6 8 by P Q")
        self.assertEqual((other.done(), house.done()), (7, 7))
        # Each goes on by itself.
        other.write("Q", Term("1"))
        house.strike("P")
        self.assertEqual(parcel_of(other), b"P (sum Q 2)\nQ 1\n")
        self.assertEqual(parcel_of(house), b"Q (times 2 2)\n")
        self.assertNotEqual(house_of(parcel), house_of(parcel))
        self.assertEqual(house_of(thing=parcel).parts(), house_of(parcel).parts())

    def test_the_empty_parcel(self):
        house = house_of(b"")
        self.assertEqual((house.parts(), house.past(), house.done(), len(house)), ([], [], 0, 0))
        house.write("P", Term("1"))
        self.assertEqual(parcel_of(house), b"P 1\n")
        self.assertEqual(parcel_of(House()), b"")

    def test_sixty_rows(self):
        rows = [f"{name} (sum {name} 1)\n" for name in named(61)]
        house = house_of("".join(rows[:60]).encode())
        self.assertEqual([name for name, _ in house.parts()], named(60))
        self.assertEqual(parcel_of(house), "".join(rows[:60]).encode())
        self.refused("".join(rows).encode())
        self.assertEqual(len(house_of("".join(rows[1:]).encode())), 60)

    def test_large_terms(self):
        text = "(sum " * 29 + "1" + " 1)" * 29
        for row in (f"P {text}", f"P (first {text})", "P " + deep(30)):
            self.assertEqual(parcel_of(house_of(row.encode() + b"\n")), row.encode() + b"\n")
        self.refused(f"P (first (first {text}))\n".encode())
        self.refused(b"P " + deep(31).encode() + b"\n")
        many = "(pair " * 15 + "(pair 1 2)" + " (pair 1 (pair 2 (pair 3 (pair 4 5)))))" * 15
        self.assertEqual(len(Term(many)), 153)
        wider = f"(pair {many} (if 1 {'(sum 1 ' * 20 + '1' + ')' * 20} 2))"
        self.assertEqual(len(Term(wider)), 198)
        self.assertEqual(len(house_of(f"P (first (first {wider}))\n".encode())), 1)
        self.refused(f"P (first (first (first {wider})))\n".encode())

    def refused(self, thing):
        with self.assertRaises(NoParcel) as caught:
            house_of(thing)
        self.assertIs(type(caught.exception), NoParcel, thing)

    def test_no_bytes(self):
        for thing in ("", "P 1\n", None, True, False, 0, 7, 10 ** 59, [], (), [80, 32, 49, 10], [b"P 1\n"], (b"",),
                      [["P", [1, (None, True)]]], House()):
            self.refused(thing)

    def test_no_parcel(self):
        self.assertEqual(len(house_of(b"P 1\nQ (sum P 1)\n")), 2)
        for thing in (
            # Rows not sorted, a name twice.
            b"Q (sum P 1)\nP 1\n", b"P 1\nP 1\n", b"P 1\nP 2\n", b"AB 1\nA 1\n", b"A 1\nC 1\nB 1\n", b"P 2\nQ 1\nP 3\n",
            # A row without its line feed, or with more than one.
            b"P 1", b"P 1\nQ 2", b"P 1\n\n", b"\n", b"\nP 1\n", b"P 1\n\nQ 1\n", b"P 1\r\n", b"P 1\n ", b"P 1\n\x00", b"P",
            # No name.
            b"p 1\n", b"Pq 1\n", b"ABCDEFG 1\n", b"P1 1\n", b"P.1 1\n", b"? 1\n", b" 1\n", b"1\n", b"P\n", b"-\n", b"(sum 1 2)\n",
            # Blanks more.
            b"P  1\n", b" P 1\n", b"P 1 \n", b"P\t1\n", b"P (sum  1 2)\n", b"P (sum 1 2 )\n", b"P ( sum 1 2)\n", b"P \n",
            # No term, free names.
            b"P (sun 1 2)\n", b"P (sum 1)\n", b"P (sum 1 2\n", b"P 01\n", b"P -0\n", b"P 1 2\n", b"P p1\n", b"P +1\n",
            b"P x\n", b"P (sum 1 x)\n", b"P (let x x 1)\n", b"P (def x y)\n", b"P 1234567890123\n", b"P QQQQQQQ\n",
            # No ASCII.
            b"P \xff\n", b"\xc3\x84 1\n", b"P 1\xc2\xa0\n", b"\xef\xbb\xbfP 1\n", b"\xff", b"P 1\n\x80", b"\x00", b"P 1\x00\n",
        ):
            with self.subTest(thing):
                self.refused(thing)

    def test_each_sign_put_otherwise(self):
        # Whatever is no refusal is the parcel of its house.
        parcel = b"A (def x (sum x -7))\nBC A\nP (let y 10 (call A y))\n"
        taken = 0
        for at in range(len(parcel) + 1):
            for sign in b"\x00\n \x22()-019AZaxz~\x7f\x80\xff":
                for other in (parcel[:at] + bytes([sign]) + parcel[at:], parcel[:at] + bytes([sign]) + parcel[at + 1:],
                              parcel[:at]):
                    try:
                        house = house_of(other)
                    except NoParcel:
                        continue
                    taken += 1
                    self.assertEqual(parcel_of(house), other)
        self.assertGreater(taken, 50)

    def test_by_chance(self):
        chance = random.Random(21)
        for _ in range(150):
            house = House(terms_of(chance_parts(chance, chance.randrange(9))))
            house.write(chance.choice(sorted(KINDS)), Term(chance_closed(chance, 3)))
            house.tell(Term("(sum A D)"))
            other = house_of(parcel_of(house))
            self.assertEqual((other.parts(), other.past(), other.done()), (house.parts(), [], 0))
            self.assertEqual(parcel_of(other), parcel_of(house))
            for name in KINDS:
                self.assertEqual(other.tell(Term(name), most=90), house.tell(Term(name), most=90))


if __name__ == "__main__":
    unittest.main()
