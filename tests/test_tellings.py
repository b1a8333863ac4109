"""Promises 2 and 13: tellings."""

import unittest

from unwritparts.tellings import Telling
from unwritparts.terms import Term

# Kind, what, steps, known, the row that is told, whether it is sure.
ROWS = (
    ("word", "3", 2, (), "word 3 2", True),
    ("word", "-12", 2, ("P",), "word -12 2 by P", True),
    ("word", "[3 4]", 12, ("P", "Q"), "word [3 4] 12 by P Q", True),
    ("word", "[[1 0] -7]", 30, ("AB", "ABC", "B"), "word [[1 0] -7] 30 by AB ABC B", True),
    ("fault", ("number", "P.1"), 9, ("P",), "fault number P.1 9 by P", True),
    ("fault", ("pair", "?.2.11"), 4, (), "fault pair ?.2.11 4", True),
    ("fault", ("def", "?"), 3, (), "fault def ? 3", True),
    ("fault", ("great", "?"), 4, (), "fault great ? 4", True),
    ("fault", ("told", "?"), 2, (), "fault told ? 2", True),
    ("ring", ("P",), 4, ("P",), "ring P 4 by P", True),
    ("ring", ("P", "P.1", "Q"), 8, ("P", "Q", "R"), "ring P P.1 Q 8 by P Q R", True),
    ("waits", "R", 3, (), "waits R 3", False),
    ("waits", "R", 5, ("P",), "waits R 5 by P", False),
    ("open", None, 1000, (), "open 1000", False),
    ("open", None, 1, (), "open 1", False),
)


def tellings():
    return [Telling(kind, what, steps, known=known) for kind, what, steps, known, _, _ in ROWS]


class TellingTest(unittest.TestCase):
    def test_fields(self):
        for (kind, what, steps, known, _, _), told in zip(ROWS, tellings()):
            with self.subTest(str(told)):
                self.assertEqual((told.kind, told.what, told.steps, told.known), (kind, what, steps, known))
                self.assertIs(type(told.known), tuple)

    def test_rows(self):
        for (*_, row, _), told in zip(ROWS, tellings()):
            self.assertEqual(str(told), row)
            self.assertEqual(repr(told), "Telling('" + row + "')")
            self.assertEqual(f"{told}", row)

    def test_sure(self):
        for (*_, sure), told in zip(ROWS, tellings()):
            self.assertIs(told.is_sure(), sure, told)

    def test_len_and_truth_are_those_of_the_set(self):
        for (_, _, _, known, _, _), told in zip(ROWS, tellings()):
            self.assertEqual(len(told), len(known))
            self.assertIs(bool(told), len(known) > 0)

    def test_equal_where_the_rows_are(self):
        for at, one in enumerate(tellings()):
            for place, other in enumerate(tellings()):
                self.assertIs(one == other, at == place)
                self.assertIs(one != other, at != place)

    def test_each_of_the_row_tells_them_apart(self):
        told = Telling("word", "3", 2, known=("P",))
        self.assertEqual(told, Telling("word", "3", 2, known=("P",)))
        for other in (
            Telling("word", "4", 2, known=("P",)), Telling("word", "3", 3, known=("P",)),
            Telling("word", "3", 2, known=("Q",)), Telling("word", "3", 2, known=("P", "Q")), Telling("word", "3", 2),
            Telling("waits", "P", 2, known=("P",)),
        ):
            self.assertNotEqual(told, other)
        self.assertNotEqual(Telling("waits", "P", 2), Telling("ring", ("P",), 2))

    def test_equal_to_nothing_of_another_class(self):
        class Alike:
            def __str__(self):
                return "word 3 2"

        told = Telling("word", "3", 2)
        for thing in ("word 3 2", "Telling('word 3 2')", 3, True, False, None, ("word", "3", 2), ["word 3 2"],
                      Term("3"), Alike(), ()):
            self.assertIs(told == thing, False, thing)
            self.assertIs(told != thing, True, thing)

    def test_arguments(self):
        told = Telling("word", "3", 2, known=["P"])
        self.assertEqual(told, Telling(steps=2, known=("P",), what="3", kind="word"))
        self.assertEqual(Telling("word", "3", 2).known, ())
        self.assertEqual(Telling("word", "3", 2), Telling("word", "3", 2, known=[]))
        with self.assertRaises(TypeError):
            Telling("word", "3", 2, ("P",))

    def test_no_list_is_kept(self):
        known = ["P", "Q"]
        told = Telling("word", "3", 2, known=known)
        self.assertEqual(known, ["P", "Q"])
        known.append("R")
        known[0] = "A"
        self.assertEqual((told.known, len(told), str(told)), (("P", "Q"), 2, "word 3 2 by P Q"))
        self.assertIs(type(told.known), tuple)

    def test_the_set_is_sorted(self):
        self.assertEqual(Telling("word", "3", 2, known=["Q", "PA", "P"]).known, ("P", "PA", "Q"))

    def test_more_than_most_steps(self):
        for steps in (5000, 5001, 5999):
            self.assertEqual(str(Telling("open", None, steps)), f"open {steps}")


if __name__ == "__main__":
    unittest.main()
