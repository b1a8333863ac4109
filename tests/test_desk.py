"""Promises 2, 3 and 22: the desk."""

import random
import unittest

from helper import KINDS, chance_closed, chance_part
from unwritparts.desk import Desk
from unwritparts.errors import Bare, Full, Loose, NoLack, NoName, NoPaper, NoPart, NoRow, NoTerm, TooMuch
from unwritparts.houses import House
from unwritparts.lacks import lack
from unwritparts.papers import paper_of
from unwritparts.terms import Term

COUNT = "(def n (if n (sum 1 (call COUNT (less n 1))) Z))"
DEEP = "(first " * 31 + "1" + ")" * 31
MANY = "(pair " * 8 + "1" + (" " + "(sum 1 " * 13 + "1" + ")" * 13 + ")") * 8

# What is none of the rows: other words, blanks more, an N that is none, what stands behind a word or doesn't.
NO_ROWS = (
    "", " ", "  ", "writ P 1", "Write P 1", "WRITE P 1", "writeP 1", "write", "write ", "write P", "write P ", "write  1",
    "write  P 1", " write P 1", "\"write\" P 1", "write: P 1", "strike", "strike ", "strike P ", "strike  P", "strike P Q",
    " strike P", "Strike P", "back ", "back 1", " back", "Back", "backs", "bac", "most", "most ", "most 0", "most -1",
    "most 01", "most 5001", "most 10000", "most +5", "most 5 ", "most  5", "most 5 5", "most x", "most 1.5", "most 1e3",
    "most 1000000000000", "most " + "9" * 3900, "most (sum 1 2)", "tell", "tell ", "Tell 1", "tells 1", " tell 1", "tell1",
    "lack", "lack ", "lacks Z", "paper", "paper ", "papers 1", "show", "show ", "show P ", "show  P", "show P Q", "shows P",
    "parts ", "part", "parts P", " parts", "done ", "done 1", "Done", "past", "undo", "P", "1", "(sum 1 2)", "ok", "-", "?",
    "wanted Z", "read P", "write\tP 1", "tell\t1", "strike\nP",
)
NO_TEXTS = (None, True, False, 0, 1, 5, 10 ** 59, [], (), ["parts"], ("parts",), [["tell", [1, (None, True)]]], b"parts")


class DeskTest(unittest.TestCase):
    def setUp(self):
        self.desk = Desk()

    def said(self, *rows):
        """Check rows and their answers, in order: texts, `row` and `answer` by turns."""
        for row, answer in zip(rows[::2], rows[1::2]):
            told = self.desk.say(row)
            self.assertIs(type(told), str)
            self.assertEqual((row, told), (row, answer))

    def stands(self):
        """What a desk tells of how it stands, nothing done for it."""
        names = self.desk.say("parts")
        shown = [self.desk.say(f"show {name}") for name in names.split() if name != "-"]
        return (names, shown, self.desk.say("done"))

    def refused(self, row, error, field=None, value=None):
        """Check that a row is refused so, and that nothing is changed by it."""
        before = self.stands()
        with self.assertRaises(error) as caught:
            self.desk.say(row)
        self.assertIs(type(caught.exception), error, row)
        if field is not None:
            self.assertEqual(repr(getattr(caught.exception, field)), repr(value))
        self.assertEqual(self.stands(), before)

    def test_a_desk(self):
        self.said(
            "parts", "-", "done", "0", "tell P", "waits P 2", "done", "1",
            "write P (sum Q 1)", "ok", "tell P", "waits Q 4 by P", "done", "3",
            "lack P", "Q | ring Q 5 by P Q | word 1 6 by P Q", "done", "3",
            "write Q 7", "ok", "tell P", "word 8 6 by P Q", "done", "5",
            "parts", "P Q", "show P", "(sum Q 1)", "show Q", "7",
            "paper P", "3", "paper (pair P (sum Q Q))", "5", "done", "5",
            "write Q (sum P 1)", "ok", "tell P", "ring P Q 6 by P Q", "paper P", "3",
            "back", "ok", "show Q", "7", "tell P", "word 8 6 by P Q",
            "strike P", "ok", "parts", "Q", "tell P", "waits P 2", "back", "ok", "parts", "P Q",
            "tell (pair P (pair 1 Q))", "word [8 [1 7]] 14 by P Q",
            "tell (sum P (pair 1 2))", "fault number ? 8 by P Q",
        )

    def test_each_row_of_the_table_answers(self):
        self.said("write P 1", "ok", "write P 2", "ok", "strike P", "ok", "back", "ok", "back", "ok", "show P", "1",
                  "most 1", "ok", "most 5000", "ok", "most 1000", "ok", "tell P", "word 1 3 by P", "paper P", "2",
                  "lack Z", "Z | ring Z 3 by Z | word 0 3 by Z", "parts", "P", "done", "2")

    def test_names_and_texts(self):
        self.said("write ABCDEF (def x (pair x ABCDEF))", "ok", "show ABCDEF", "(def x (pair x ABCDEF))",
                  "write B -999999999999", "ok", "write A (let abcd 1 abcd)", "ok", "parts", "A ABCDEF B",
                  "show A", "(let abcd 1 abcd)", "tell B", "word -999999999999 3 by B")

    def test_no_row(self):
        self.said("write P (sum Q 1)", "ok", "most 7", "ok")
        for row in NO_ROWS + NO_TEXTS:
            with self.subTest(row):
                self.refused(row, NoRow, "row", row)
        # The most is as it was, and so is the past.
        self.said("write Q (sum 2 3)", "ok", "tell P", "open 7", "back", "ok", "back", "ok", "parts", "-")
        self.refused("back", Bare)

    def test_no_list_is_kept_by_a_refusal(self):
        row = ["tell", ["P"]]
        with self.assertRaises(NoRow) as caught:
            self.desk.say(row)
        row[1].append("Q")
        self.assertEqual(caught.exception.row, ["tell", ["P"]])

    def test_text_is_all_that_stands_behind_the_blank(self):
        for word in ("tell", "lack", "paper", "write P"):
            for text, spot in ((" ", 0), ("  ", 0), (" 1", 0), ("1 ", 1), ("1 2", 1), ("(sum 1  2)", 7), ("(sum 1 2) ", 9),
                               ("(sum 1", 6), ("(sun 1 2)", 3), ("ok", 2), ("0 1", 1), ("-0", 1), ("ABCDEFG", 6),
                               ("abcde", 4), ("1234567890123", 12), ("\"1\"", 0), ("(", 1), ("x y", 1), ("P Q", 1)):
                if text == "ok":
                    self.refused(f"{word} {text}", Loose, "names", ("ok",))
                else:
                    self.refused(f"{word} {text}", NoTerm, "spot", spot)

    def test_write_refused(self):
        self.said("write P 1", "ok")
        for name in ("p", "Pq", "ABCDEFG", "P1", "P.1", "?", "-", "1", "(sum", "write", "P,"):
            self.refused(f"write {name} 1", NoName, "name", name)
            # NoName ahead of NoTerm and TooMuch, and of Loose.
            for text in ("(sun 1 2)", " ", "x", DEEP, MANY, "1 "):
                self.refused(f"write {name} {text}", NoName, "name", name)
        for name in ("P", "Q"):
            self.refused(f"write {name} (sum 1", NoTerm, "spot", 6)
            self.refused(f"write {name} {DEEP}", TooMuch, "what", "deep")
            self.refused(f"write {name} {MANY}", TooMuch, "what", "many")
            self.refused(f"write {name} (sum y (def z (sum x z)))", Loose, "names", ("x", "y"))

    def test_full(self):
        names = [f"P{chr(65 + at // 26)}{chr(65 + at % 26)}" for at in range(61)]
        for name in names[:60]:
            self.said(f"write {name} 1", "ok")
        self.refused(f"write {names[60]} 1", Full, "most", 60)
        self.refused(f"write {names[60]} x", Loose, "names", ("x",))
        self.refused(f"write {names[60]} (", NoTerm, "spot", 1)
        self.said("parts", " ".join(names[:60]), f"write {names[0]} 2", "ok", f"strike {names[1]}", "ok",
                  f"write {names[60]} 1", "ok", f"lack {names[1]}",
                  f"{names[1]} | ring {names[1]} 3 by {names[1]} | word 0 3 by {names[1]}")

    def test_strike_show_and_back_refused(self):
        self.refused("back", Bare)
        self.said("write P 1", "ok")
        for name in ("Q", "PP", "p", "?", "P.1", "1", "-", "(sum", "parts", "P,"):
            for word in ("strike", "show"):
                self.refused(f"{word} {name}", NoPart, "name", name)
        self.said("strike P", "ok")
        self.refused("strike P", NoPart, "name", "P")
        self.refused("show P", NoPart, "name", "P")
        self.said("back", "ok", "back", "ok")
        self.refused("back", Bare)

    def test_asks_refused(self):
        self.said("write P (sum Q 1)", "ok", "write R (sum 1 2)", "ok", "write S S", "ok", "write T (first 1)", "ok",
                  "write W (call (def f (call f f)) (def f (call f f)))", "ok")
        for word in ("tell", "lack", "paper"):
            self.refused(f"{word} (sum 1", NoTerm, "spot", 6)
            self.refused(f"{word} {DEEP}", TooMuch, "what", "deep")
            self.refused(f"{word} {MANY}", TooMuch, "what", "many")
            self.refused(f"{word} (sum y (pair x Q))", Loose, "names", ("x", "y"))
        for text, kind in (("R", "word"), ("S", "ring"), ("T", "fault"), ("W", "open")):
            self.refused(f"lack {text}", NoLack, "kind", kind)
        for text, kind in (("P", "waits"), ("Q", "waits"), ("W", "open")):
            self.refused(f"paper {text}", NoPaper, "kind", kind)
        self.said("paper R", "2", "paper S", "2", "paper T", "2", "done", "0")

    def test_the_most(self):
        # (call COUNT n) has 9 n + 8 steps up to where it needs Z.
        self.said(f"write COUNT {COUNT}", "ok")
        text, longer = "(sum 1 (call COUNT 110))", "(let x 1 (sum 1 (call COUNT 110)))"
        self.said(f"tell {text}", "waits Z 1000 by COUNT", f"tell {longer}", "open 1000",
                  f"lack {text}", "Z | open 1000 | open 1000")
        self.refused(f"lack {longer}", NoLack, "kind", "open")
        self.said("most 1001", "ok", f"tell {longer}", "waits Z 1001 by COUNT",
                  f"lack {text}", "Z | ring Z 1001 by COUNT Z | word 111 1001 by COUNT Z")
        self.said("write Z 0", "ok", f"paper {text}", "114")
        self.refused(f"paper {longer}", NoPaper, "kind", "open")
        self.said("most 1002", "ok", f"paper {longer}", "114", "most 5000", "ok", "tell (call COUNT 554)",
                  "word 554 4995 by COUNT Z", "most 4994", "ok", "tell (call COUNT 554)", "open 4994",
                  "most 1", "ok", "tell 1", "open 1", "most 2", "ok", "tell 1", "word 1 2")
        for row in ("most 0", "most 5001", "most 03", "most"):
            self.refused(row, NoRow, "row", row)
            self.said("tell 1", "word 1 2", "tell Z", "open 2")

    def test_two_desks(self):
        one, other = Desk(), Desk()
        self.assertEqual([desk.say("write P (sum Q 1)") for desk in (one, other)], ["ok", "ok"])
        one.say("write Q 1")
        one.say("most 3")
        self.assertEqual((one.say("tell P"), other.say("tell P")), ("open 3", "waits Q 4 by P"))
        other.say("strike P")
        self.assertEqual((one.say("parts"), other.say("parts")), ("P Q", "-"))
        self.assertEqual((one.say("done"), other.say("done")), ("2", "3"))
        with self.assertRaises(NoPart):
            other.say("show Q")
        self.assertEqual(one.say("show Q"), "1")

    def test_equal_to_itself_alone(self):
        one, other = Desk(), Desk()
        self.assertIs(one == one, True)
        self.assertIs(one != one, False)
        for thing in (other, House(), None, True, 1, "", "-", []):
            self.assertIs(one == thing, False)
            self.assertIs(one != thing, True)
        self.assertIs(bool(one), True)
        one.say("write P 1")
        self.assertIs(one == one, True)

    def test_arguments(self):
        self.assertEqual(self.desk.say(row="parts"), "-")
        with self.assertRaises(TypeError):
            Desk(House())
        with self.assertRaises(NoRow):
            self.desk.say(row=None)

    def test_beside_a_house(self):
        chance = random.Random(22)
        kinds = []
        for _ in range(60):
            desk, house, most = Desk(), House(), 1000
            for _ in range(25):
                name, text = chance.choice(sorted(KINDS)), chance_closed(chance, 2, chance.choice(["number", "pair"]))
                word = chance.choice(["write", "write", "strike", "back", "most", "tell", "tell", "lack", "paper", "show"])
                if word == "write":
                    text = chance_part(chance, name, 2)
                row, deed = {
                    "write": (f"write {name} {text}", lambda: house.write(name, Term(text))),
                    "strike": (f"strike {name}", lambda: house.strike(name)),
                    "back": ("back", house.back),
                    "most": (f"most {chance.randrange(1, 90)}", lambda: None),
                    "tell": (f"tell {text}", lambda: str(house.tell(Term(text), most=most))),
                    "lack": (f"lack {text}", lambda: " | ".join(map(str, lack(house, Term(text), most=most)))),
                    "paper": (f"paper {text}", lambda: str(len(paper_of(house.parts(), Term(text), most=most)[2]))),
                    "show": (f"show {name}", lambda: str(house.term_of(name))),
                }[word]
                try:
                    answer = deed()
                    answer = answer if word in ("tell", "lack", "paper", "show") else "ok"
                except (Bare, NoLack, NoPaper, NoPart) as error:
                    kinds.append(type(error))
                    with self.assertRaises(type(error)) as caught:
                        desk.say(row)
                    self.assertEqual(caught.exception.__dict__, error.__dict__)
                    continue
                kinds.append(word)
                self.assertEqual(desk.say(row), answer)
                if word == "most":
                    most = int(row.split()[1])
                self.assertEqual(desk.say("parts"), " ".join(name for name, _ in house.parts()) or "-")
                self.assertEqual(desk.say("done"), str(house.done()))
        for kind in ("write", "strike", "back", "tell", "lack", "paper", "show", Bare, NoLack, NoPaper, NoPart):
            self.assertGreater(kinds.count(kind), 5, kind)


if __name__ == "__main__":
    unittest.main()
