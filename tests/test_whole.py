"""Promises 1 to 3: the whole program, over programs by chance that several hands write and rewrite."""

import copy
import inspect
import random
import unittest

from helper import KINDS, chance_closed, chance_part, chance_parts, terms_of
from unwritparts.desk import Desk
from unwritparts.errors import NoPaper
from unwritparts.houses import House
from unwritparts.lacks import lack, wanted
from unwritparts.looker import holds
from unwritparts.papers import paper_of
from unwritparts.parcels import house_of, parcel_of
from unwritparts.plain import plain
from unwritparts.tellings import Telling
from unwritparts.terms import Term, is_part_name
from unwritparts.walks import walked

MOST = 400


def chance_house(chance):
    return House(terms_of(chance_parts(chance, chance.choice([4, 6, 8]))))


def chance_asked(chance):
    return Term(chance_closed(chance, 3, chance.choice(["number", "pair"])))


def chance_deed(chance, house, but=()):
    """Do something to a house, but to none of these parts."""
    names = [name for name in KINDS if name not in but]
    name, deed = chance.choice(names), chance.choice(["write", "write", "strike", "ask", "part"])
    if deed == "write":
        house.write(name, Term(chance_part(chance, name, chance.randrange(4))))
    elif deed == "strike" and name in [part for part, _ in house.parts()]:
        house.strike(name)
    elif deed == "ask":
        house.tell(chance_asked(chance), most=chance.randrange(1, 90))
    elif deed == "part":
        house.tell(Term(name), most=90)


class WholeTest(unittest.TestCase):
    def test_what_is_sure_stands_until_its_set_is_changed(self):
        chance = random.Random(31)
        kinds = []
        for _ in range(400):
            house, term = chance_house(chance), chance_asked(chance)
            told = house.tell(term, most=MOST)
            if not told.is_sure():
                continue
            kinds.append(told.kind)
            paper = paper_of(house.parts(), term, most=MOST)
            for _ in range(4):
                chance_deed(chance, house, told.known)
                self.assertEqual(house.tell(term, most=MOST), told)
                self.assertEqual(plain(house.parts(), term, most=MOST), told)
                self.assertEqual(paper_of(house.parts(), term, most=MOST), paper)
                self.assertIs(holds(house.parts(), term, paper), True)
            for name in told.known:
                house.strike(name)
                self.assertNotEqual(house.tell(term, most=MOST), told)
                self.assertIs(holds(house.parts(), term, paper), False)
                house.back()
            self.assertEqual(house.tell(term, most=MOST), told)
        for kind in ("word", "fault", "ring"):
            self.assertGreater(kinds.count(kind), 15, kind)

    def test_a_wait_stays_until_its_part_is_written(self):
        chance = random.Random(32)
        many = 0
        while many < 120:
            house, term = chance_house(chance), chance_asked(chance)
            told = house.tell(term, most=MOST)
            if told.kind != "waits":
                continue
            many += 1
            part = told.what
            for _ in range(4):
                chance_deed(chance, house, told.known + (part,))
                self.assertEqual(house.tell(term, most=MOST), told)
                self.assertEqual(lack(house, term, most=MOST)[0], part)
                self.assertIn(part, [name for name, _ in wanted(house, [term, Term("A"), term], most=MOST)])
                with self.assertRaises(NoPaper) as caught:
                    paper_of(house.parts(), term, most=MOST)
                self.assertEqual(caught.exception.kind, "waits")
            twin = house.twin()
            house.write(part, Term(part))
            twin.write(part, Term("0"))
            ring, other = house.tell(term, most=5000), twin.tell(term, most=5000)
            self.assertEqual((ring.kind, ring.what), ("ring", (part,)))
            self.assertFalse(other.kind == "ring" and part in other.what)
            self.assertIs(holds(house.parts(), term, paper_of(house.parts(), term, most=5000)), True)

    def test_a_house_behind_any_deeds_tells_as_plain_of_its_parts(self):
        chance = random.Random(33)
        for _ in range(60):
            house = chance_house(chance)
            terms = [chance_asked(chance) for _ in range(3)] + [Term("A"), Term("B")]
            for _ in range(20):
                chance_deed(chance, house)
                if house.past() and chance.random() < 0.2:
                    house.back()
                if chance.random() < 0.1:
                    house = house.twin()
                if chance.random() < 0.1:
                    self.assertEqual(house_of(parcel_of(house)).parts(), house.parts())
                term, most = chance.choice(terms), chance.choice([MOST, chance.randrange(1, 60)])
                told = house.tell(term, most=most)
                self.assertEqual(told, plain(house.parts(), term, most=most))
                done = house.done()
                self.assertEqual(house.tell(term, most=most), told)
                self.assertEqual(house.done(), done)
                if told.is_sure():
                    paper = paper_of(house.parts(), term, most=most)
                    self.assertEqual(paper[:2], (told.kind, told.what))
                    self.assertIs(holds(house.parts(), term, paper), True)

    def test_papers_stand_just_where_their_telling_does(self):
        chance = random.Random(34)
        told_so = 0
        for _ in range(300):
            parts, term = chance_house(chance).parts(), chance_asked(chance)
            told = plain(parts, term, most=MOST)
            if not told.is_sure():
                continue
            paper = paper_of(parts, term, most=MOST)
            for _ in range(4):
                name = chance.choice(sorted(KINDS))
                other = House(parts)
                other.write(name, Term(chance_part(chance, name, 2)))
                if holds(other.parts(), term, paper):
                    told_so += 1
                    there = plain(other.parts(), term, most=5000)
                    self.assertEqual((there.kind, there.what), paper[:2])
                else:
                    self.assertIn(name, told.known)
        self.assertGreater(told_so, 200)

    def test_what_is_handed_in_stays_as_it_was(self):
        parts = terms_of({"P": "(sum Q 1)", "Q": "2", "R": "(sum Z 1)"})
        house = House(parts)
        things = [parts, [Term("P"), Term("R")], [("number", 2)], ["P", "Q"], paper_of(parts, Term("P"))]
        before = [repr(thing) for thing in things]
        plain(parts, Term("P"))
        House(parts).write("P", Term("1"))
        wanted(house, things[1])
        walked("P", Term("(sum Q 1)"), (), things[2])
        Telling("word", "3", 6, known=things[3])
        for thing in things + [copy.deepcopy(things)]:
            holds(parts, Term("P"), thing)
            house_of_any(thing)
            is_part_name(thing)
            say_any(Desk(), thing)
        self.assertEqual([repr(thing) for thing in things], before)

    def test_arguments_by_name_as_by_place(self):
        for asked, names in (
            (Term, "text"), (is_part_name, "thing"), (walked, "knot term names gots"),
            (Telling, "kind what steps * known"), (plain, "parts term * most"), (House, "parts"),
            (House().write, "name term * new"), (House().strike, "name"), (House().back, ""), (House().past, ""),
            (House().parts, ""), (House().term_of, "name"), (House().tell, "term * most"), (House().done, ""),
            (House().twin, ""), (lack, "house term * most"), (wanted, "house terms * most"),
            (paper_of, "parts term * most"), (holds, "parts term thing"), (parcel_of, "house"), (house_of, "thing"),
            (Desk, ""), (Desk().say, "row"),
        ):
            by_name = False
            told = names.split()
            taken = inspect.signature(asked).parameters
            self.assertEqual(list(taken), [name for name in told if name != "*"])
            for name in told:
                by_name = by_name or name == "*"
                if name != "*":
                    kind = inspect.Parameter.KEYWORD_ONLY if by_name else inspect.Parameter.POSITIONAL_OR_KEYWORD
                    self.assertEqual(taken[name].kind, kind)

    def test_told_terms_and_tellings_have_their_truth(self):
        self.assertTrue(Term("0"))
        self.assertFalse(Telling("word", "0", 2))
        self.assertTrue(Telling("word", "0", 2, known=["P"]))
        self.assertTrue(Desk())
        self.assertFalse(House())


def house_of_any(thing):
    try:
        return house_of(thing)
    except ValueError:
        return None


def say_any(desk, thing):
    try:
        return desk.say(thing)
    except ValueError:
        return None


if __name__ == "__main__":
    unittest.main()
