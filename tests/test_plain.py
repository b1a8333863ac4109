"""Promises 2, 3 and 10 to 12: plain reading."""

import random
import sys
import unittest

from helper import OtherReading, chance_closed, chance_parts, terms_of
from unwritparts.plain import MOST, plain
from unwritparts.tellings import Telling
from unwritparts.terms import Term

COUNT = "(def n (if n (sum 1 (call COUNT (less n 1))) 0))"
RIGHT = "(def n (if n (pair n (call RIGHT (less n 1))) 0))"
LEFT = "(def n (if n (pair (call LEFT (less n 1)) n) 0))"
ADD = "(def n (def a (if n (call (call ADD (less n 1)) (sum a n)) a)))"
TWO = {"P": "(sum Q 1)", "Q": "(sum P 1)", "R": "(times 2 Q)"}
THREE = {"A": "(pair 0 (first C))", "B": "(second A)", "C": "(sum 1 B)"}
# Of ten made knots two stand in the ring, beside those that the pair makes; as texts P.10 is the least.
TEN = {
    "P": "(let a 1 (let b U (let c 1 (let d 1 (let e 1 (let f 1 (let g 1 (let h 1 (let i 1 (let j T (pair b j))"
         ")))))))))",
    "T": "(first P)",
    "U": "(second P)",
}

# Parts, a term, and what is told of it, the steps counted by hand.
ROWS = (
    ({}, "3", "word 3 2"),
    ({}, "-3", "word -3 2"),
    ({}, "(sum 1 2)", "word 3 4"),
    ({"P": "(sum 1 2)"}, "P", "word 3 5 by P"),
    ({}, "(times 999999999999 -1)", "word -999999999999 4"),
    ({}, "(sum 999999999999 1)", "word 1000000000000 4"),
    # Words of pairs.
    ({}, "(pair 3 4)", "word [3 4] 6"),
    ({"P": "(pair 3 Q)", "Q": "4"}, "P", "word [3 4] 8 by P Q"),
    ({}, "(pair (pair 1 2) (pair -3 (pair 4 5)))", "word [[1 2] [-3 [4 5]]] 18"),
    ({}, "(let x (sum 1 2) (pair x x))", "word [3 3] 10"),
    ({"P": "(pair Q Q)", "Q": "(pair 1 1)"}, "P", "word [[1 1] [1 1]] 14 by P Q"),
    ({"P": "(let x (pair 1 2) (pair x (pair x x)))"}, "P", "word [[1 2] [[1 2] [1 2]]] 21 by P"),
    ({}, "(first (pair 3 (sum R 1)))", "word 3 4"),
    ({"P": "(pair 3 R)"}, "(first P)", "word 3 5 by P"),
    # Parts that are needed many times are walked once.
    ({"Q": "(sum 1 2)"}, "(sum Q (sum Q Q))", "word 9 9 by Q"),
    ({"P": "(sum Q Q)", "Q": "(sum S S)", "S": "(sum 1 1)"}, "(sum P P)", "word 16 13 by P Q S"),
    # Parts that aren't needed are in no set.
    ({"P": "(if 0 R S)", "S": "7", "Z": "8"}, "P", "word 7 6 by P S"),
    ({"P": "(let x R 7)"}, "P", "word 7 4 by P"),
    # Parts that aren't written.
    ({}, "R", "waits R 2"),
    ({}, "(sum 1 R)", "waits R 4"),
    ({"P": "Q"}, "P", "waits Q 3 by P"),
    ({"P": "(sum Q R)", "Q": "1"}, "P", "waits R 6 by P Q"),
    ({"P": "(sum R Q)", "Q": "1"}, "P", "waits R 4 by P"),
    ({"P": "(sum R S)"}, "(sum 1 P)", "waits R 6 by P"),
    ({"P": "(def x (sum x R))"}, "(call P 1)", "waits R 8 by P"),
    ({}, "(pair R 1)", "waits R 4"),
    ({}, "(pair 1 (pair R (first 1)))", "waits R 8"),
    # Rings.
    ({"P": "P"}, "P", "ring P 3 by P"),
    ({"P": "(sum 1 P)"}, "(times 2 P)", "ring P 7 by P"),
    (TWO, "P", "ring P Q 6 by P Q"),
    (TWO, "Q", "ring P Q 6 by P Q"),
    (TWO, "R", "ring P Q 9 by P Q R"),
    (TWO, "(pair 1 (pair R 2))", "ring P Q 15 by P Q R"),
    ({"A": "C", "B": "A", "C": "B"}, "B", "ring A C B 5 by A B C"),
    ({"A": "B", "B": "C", "C": "A"}, "B", "ring A B C 5 by A B C"),
    ({"AB": "B", "B": "AC", "AC": "AB"}, "B", "ring AB B AC 5 by AB AC B"),
    ({"P": "(first (pair P 1))"}, "P", "ring P P.1 5 by P"),
    ({"P": "(pair (sum Q 1) 2)", "Q": "(first P)"}, "Q", "ring P.1 Q 7 by P Q"),
    ({"P": "(pair (sum Q 1) 2)", "Q": "(first P)"}, "P", "ring P.1 Q 8 by P Q"),
    ({"P": "(pair (sum Q 1) 2)", "Q": "(second P)"}, "P", "word [3 2] 11 by P Q"),
    (THREE, "B", "ring A.2 C B 10 by A B C"),
    (THREE, "C", "ring A.2 C B 10 by A B C"),
    (TEN, "U", "ring P.10 T P.11 P.2 U P.12 21 by P T U"),
    (TEN, "T", "ring P.10 T P.11 P.2 U P.12 21 by P T U"),
    ({"P": "(pair P R)"}, "(pair (sum 1 Q) P)", "waits Q 6"),
    ({"P": "P"}, "(pair P R)", "ring P 5 by P"),
    # Faults.
    ({}, "(first 1)", "fault pair ? 3"),
    ({"P": "(sum (pair 1 2) 1)"}, "P", "fault number P 4 by P"),
    ({"P": "(sum (pair 1 2) 1)", "Q": "(sum P 1)"}, "Q", "fault number P 6 by P Q"),
    ({"P": "(times 1000000 1000001)"}, "(sum 1 P)", "fault great P 7 by P"),
    ({"P": "7"}, "(call P 1)", "fault def ? 4 by P"),
    ({}, "(pair 1 (first 1))", "fault pair ?.2 7"),
    ({}, "(pair (first 1) R)", "fault pair ?.1 5"),
    # A def at the bottom.
    ({}, "(def x x)", "fault told ? 2"),
    ({"P": "(def x x)"}, "P", "fault told ? 3 by P"),
    ({"P": "(pair 1 (def x x))"}, "P", "fault told P.2 7 by P"),
    ({}, "(pair (def x x) R)", "fault told ?.1 4"),
    ({"P": "(def x x)"}, "(pair P P)", "fault told ?.1 5 by P"),
)


def named(many):
    """So many names of parts, sorted."""
    return [f"P{chr(65 + at // 26)}{chr(65 + at % 26)}" for at in range(many)]


class RowsTest(unittest.TestCase):
    def test_told(self):
        for parts, text, row in ROWS:
            with self.subTest(parts=parts, text=text):
                told = plain(terms_of(parts), Term(text))
                self.assertIsInstance(told, Telling)
                self.assertEqual(str(told), row)

    def test_most(self):
        for parts, text, row in ROWS:
            steps = plain(terms_of(parts), Term(text)).steps
            for most in range(1, steps + 3):
                told = plain(terms_of(parts), Term(text), most=most)
                self.assertEqual(str(told), f"open {most}" if most < steps else row, (parts, text))

    def test_parts_in_any_order(self):
        for parts, text, row in ROWS:
            rows = terms_of(parts)
            self.assertEqual(str(plain(rows[::-1], Term(text))), row)
            self.assertEqual(str(plain(rows[1:] + rows[:1], Term(text))), row)
            self.assertEqual(str(plain(tuple(rows), Term(text))), row)

    def test_by_the_other_way_of_reading(self):
        for parts, text, row in ROWS:
            self.assertEqual(OtherReading(parts, text, 1000).row, row)

    def test_kinds_of_the_fields(self):
        for parts, text, row in ROWS:
            told = plain(terms_of(parts), Term(text))
            kind = row.split()[0]
            self.assertEqual(told.kind, kind)
            self.assertIs(type(told.what), {"word": str, "waits": str}.get(kind, tuple), row)
            self.assertIs(type(told.steps), int)
            self.assertIs(type(told.known), tuple)
        self.assertEqual(plain([], Term("(first 1)")).what, ("pair", "?"))
        self.assertEqual(plain(terms_of(TWO), Term("R")).what, ("P", "Q"))
        told = plain([], Term("3"), most=1)
        self.assertEqual((told.kind, told.what, told.steps, told.known), ("open", None, 1, ()))
        told = plain(terms_of(TWO), Term("R"), most=8)
        self.assertEqual((told.kind, told.what, told.steps, told.known), ("open", None, 8, ()))

    def test_arguments(self):
        parts, term = terms_of(TWO), Term("R")
        self.assertEqual(plain(parts, term), plain(term=term, parts=parts))
        self.assertEqual(plain(parts, term, most=8), plain(most=8, term=term, parts=parts))
        with self.assertRaises(TypeError):
            plain(parts, term, 8)

    def test_what_is_handed_in_stays_as_it_was(self):
        parts, term = terms_of(TWO), Term("R")
        before = list(parts)
        told = plain(parts, term)
        self.assertEqual((parts, term), (before, Term("R")))
        parts.clear()
        self.assertEqual(str(told), "ring P Q 9 by P Q R")
        self.assertEqual(str(plain(parts, term)), "waits R 2")

    def test_nothing_hangs_on_what_was_asked_before(self):
        parts = terms_of(TWO)
        first = plain(parts, Term("R"))
        plain(terms_of({"P": "1"}), Term("R"))
        self.assertEqual(plain(parts, Term("R")), first)


class MostTest(unittest.TestCase):
    def test_the_default(self):
        # (call COUNT n) has 9 n + 8 steps.
        parts = terms_of({"COUNT": COUNT})
        self.assertEqual(MOST, 1000)
        self.assertEqual(str(plain(parts, Term("(call COUNT 110)"))), "word 110 998 by COUNT")
        self.assertEqual(str(plain(parts, Term("(sum 1 (call COUNT 110))"))), "word 111 1000 by COUNT")
        term = Term("(let x 1 (sum 1 (call COUNT 110)))")
        self.assertEqual(str(plain(parts, term)), "open 1000")
        self.assertEqual(str(plain(parts, term, most=1001)), "word 111 1001 by COUNT")

    def test_no_end(self):
        parts = terms_of({
            "W": "(call (def f (call f f)) (def f (call f f)))", "FROM": "(def n (pair n (call FROM (sum n 1))))",
            "RIGHT": "(pair 1 RIGHT)", "LEFT": "(pair LEFT 1)", "BOTH": "(pair BOTH BOTH)",
        })
        for text in ("W", "(call FROM 1)", "RIGHT", "LEFT", "BOTH", "(pair 1 W)", "(sum 1 W)"):
            for most in (1, 2, 50, 1000, 4999, 5000):
                self.assertEqual(str(plain(parts, Term(text), most=most)), f"open {most}")
        self.assertEqual(str(plain(parts, Term("(first (second (second (call FROM 5))))"))), "word 7 22 by FROM")

    def test_a_knot_that_a_word_holds_many_times_counts_as_often(self):
        text, word, many = "(pair 1 1)", "[1 1]", 3
        for small in "abcdefghi":
            text, word, many = f"(let {small} {text} (pair {small} {small}))", f"[{word} {word}]", 2 * many + 1
            # A bottom for each knot that is read; let, pair and two names of each let; a pair and two numbers.
            steps = many + 4 * ("abcdefghi".index(small) + 1) + 3
            told = plain([], Term(text), most=5000)
            self.assertEqual(str(told), f"word {word} {steps}")
            self.assertEqual(str(plain([], Term(text), most=steps - 1)), f"open {steps - 1}")


class DeepTest(unittest.TestCase):
    def check(self, parts, text, word, steps):
        parts, term = terms_of(parts), Term(text)
        told = plain(parts, term, most=5000)
        self.assertEqual((told.kind, told.what, told.steps), ("word", word, steps))
        self.assertGreater(told.steps, 4900)
        self.assertEqual(plain(parts, term, most=steps), told)
        self.assertEqual(str(plain(parts, term, most=steps - 1)), f"open {steps - 1}")

    def test_terms_that_wait_within_one_another(self):
        self.check({"COUNT": COUNT}, "(call COUNT 554)", "554", 4994)

    def test_knots_that_need_one_another(self):
        # Each n > 0 takes if, n, its knot (3, the first 1), call, call, ADD, def, and 3 for a sum at the end.
        many = 409
        self.check({"ADD": ADD}, f"(call (call ADD {many}) 0)", str(many * (many + 1) // 2), 12 * many + 11)

    def test_parts_in_a_row(self):
        names = named(60)
        parts = {name: f"(sum 1 {behind})" for name, behind in zip(names, names[1:])}
        told = plain(terms_of({**parts, names[-1]: "0"}), Term(names[0]))
        self.assertEqual((told.what, told.steps, len(told)), ("59", 2 + 3 * 59 + 1, 60))
        self.assertEqual(told.known, tuple(names))
        self.assertEqual(str(plain(terms_of(parts), Term(names[0]))).split()[:3], ["waits", names[-1], "179"])
        told = plain(terms_of({**parts, names[-1]: names[20]}), Term(names[0]))
        self.assertEqual((told.kind, told.what), ("ring", tuple(names[20:])))
        told = plain(terms_of({**parts, names[-1]: "(def x x)"}), Term(names[0]))
        self.assertEqual((told.kind, told.what), ("fault", ("number", names[-2])))

    def test_pairs_within_pairs(self):
        # Each n > 0 takes two bottoms, if, n, its knot (3, the first 1), pair, n again, call and RIGHT.
        many = 450
        right = "".join([f"[{number} " for number in range(many, 0, -1)]) + "0" + "]" * many
        left = "[" * many + "0" + "".join([f" {number}]" for number in range(1, many + 1)])
        self.check({"RIGHT": RIGHT}, f"(call RIGHT {many})", right, 11 * many + 8)
        self.check({"LEFT": LEFT}, f"(call LEFT {many})", left, 11 * many + 8)

    def test_makers_of_makers(self):
        # Each n > 0 takes if, n, its knot (3, the first 1), let, sum, k, 1, call and DOWN; each k makes the next k.
        parts = {"DOWN": "(def n (if n (let k (call DOWN (less n 1)) (sum k 1)) 0))"}
        self.check(parts, "(call DOWN 453)", "453", 11 * 453 + 8)

    def test_one_more_than_most_as_deep_as_that(self):
        for parts in ({"COUNT": COUNT}, {"COUNT": "(def n (pair (call COUNT n) 1))"},
                      {"COUNT": "(def n (let k (call COUNT n) (sum k 1)))"}):
            self.assertEqual(str(plain(terms_of(parts), Term("(call COUNT 5000)"), most=5000)), "open 5000")


class LongTest(unittest.TestCase):
    """Readings of nearly 5,000 steps, by just these and by one fewer."""

    F = "(def x (if x (sum 1 (call F (less x 1))) 0))"
    G = "(def n (def x (if n (call (call G (less n 1)) (sum x 2)) x)))"

    def check(self, parts, text, row, steps):
        parts, term = terms_of(parts), Term(text)
        for most, told in ((steps, row), (steps - 1, f"open {steps - 1}"), (steps + 1, row)):
            self.assertEqual(str(plain(parts, term, most=most)), told)

    def test_a_call_within_a_call(self):
        for many in (0, 1, 2, 10, 100, 333, 400, 500, 554):
            self.check({"F": self.F}, f"(call F {many})", f"word {many} {9 * many + 8} by F", 9 * many + 8)

    def test_a_call_of_what_was_called(self):
        for many in (0, 1, 2, 10, 100, 333, 399, 400):
            steps = 12 * many + 11
            self.check({"G": self.G}, f"(call (call G {many}) 5)", f"word {5 + 2 * many} {steps} by G", steps)
        self.check({"G": self.G}, "(call (call G 400) 5)", "word 805 4811 by G", 4811)

    def test_each_most_on_the_way(self):
        for parts, text, steps in (({"F": self.F}, "(call F 5)", 53), ({"G": self.G}, "(call (call G 5) 5)", 71)):
            for most in range(1, steps + 2):
                told = plain(terms_of(parts), Term(text), most=most)
                self.assertEqual(str(told), OtherReading(parts, text, most).row)
                self.assertEqual(told.kind, "word" if most >= steps else "open")

    def test_sixty_parts_in_a_row(self):
        names = named(60)
        row = {name: f"(sum 1 {behind})" for name, behind in zip(names, names[1:])}
        self.check({**row, names[-1]: "7"}, names[0], f"word 66 180 by {' '.join(names)}", 180)
        self.check({**row, names[-1]: f"(sum 1 {names[0]})"}, names[0],
                   f"ring {' '.join(names)} 182 by {' '.join(names)}", 182)

    def test_few_calls_for_a_step(self):
        # Time is no measure for a test; how many functions are called is one, and it hangs on nothing else.
        for parts, text in (({"F": self.F}, "(call F 500)"), ({"G": self.G}, "(call (call G 400) 5)")):
            for most in (4508, 4811):
                calls = []
                parts_told, term = terms_of(parts), Term(text)
                sys.setprofile(lambda frame, event, thing: calls.append(1) if event == "call" else None)
                try:
                    told = plain(parts_told, term, most=most)
                finally:
                    sys.setprofile(None)
                self.assertLess(len(calls), 4 * told.steps)


class ByChanceTest(unittest.TestCase):
    def test_by_the_other_way_of_reading(self):
        chance = random.Random(10)
        kinds = []
        for _ in range(3000):
            parts = chance_parts(chance, chance.choice([5, 7, 8, 8]))
            text = chance_closed(chance, 3, chance.choice(["number", "pair"]))
            for most in (chance.randrange(1, 40), 90):
                told = plain(terms_of(parts), Term(text), most=most)
                self.assertEqual(str(told), OtherReading(parts, text, most).row, (parts, text, most))
                kinds.append(told.kind)
        for kind in ("word", "fault", "ring", "waits", "open"):
            self.assertGreater(kinds.count(kind), 100, kind)

    def others(self, chance, parts, kept):
        """Another program by chance in which the kept parts are as they are."""
        other = chance_parts(chance, chance.randrange(9))
        rows = {name: row for name, row in other.items() if name not in kept}
        return {**rows, **{name: parts[name] for name in kept}}

    def test_what_is_sure_stands_in_other_programs(self):
        chance = random.Random(3)
        kinds = []
        for _ in range(1500):
            parts = chance_parts(chance, chance.choice([6, 8]))
            term = Term(chance_closed(chance, 3, chance.choice(["number", "pair"])))
            told = plain(terms_of(parts), term, most=500)
            for name in told.known:
                self.assertIn(name, parts)
            if not told.is_sure():
                continue
            kinds.append(told.kind)
            self.assertEqual(plain(terms_of({name: parts[name] for name in told.known}), term, most=500), told)
            for _ in range(3):
                other = self.others(chance, parts, told.known)
                self.assertEqual(plain(terms_of(other), term, most=500), told, (parts, other, term))
        for kind in ("word", "fault", "ring"):
            self.assertGreater(kinds.count(kind), 50, kind)

    def test_what_waits_could_not_be_told_sooner(self):
        chance = random.Random(18)
        many = 0
        for _ in range(3000):
            parts = chance_parts(chance, chance.choice([3, 5]))
            term = Term(chance_closed(chance, 3, chance.choice(["number", "pair"])))
            told = plain(terms_of(parts), term, most=500)
            if told.kind != "waits":
                continue
            many += 1
            lacking = told.what
            self.assertNotIn(lacking, parts)
            for _ in range(3):
                other = self.others(chance, parts, told.known)
                ring = plain(terms_of({**other, lacking: lacking}), term, most=2000)
                self.assertEqual((ring.kind, ring.what), ("ring", (lacking,)))
                zero = plain(terms_of({**other, lacking: "0"}), term, most=2000)
                self.assertFalse(zero.kind == "ring" and lacking in zero.what)
                other.pop(lacking, None)
                self.assertEqual(plain(terms_of(other), term, most=500), told)
        self.assertGreater(many, 200)


if __name__ == "__main__":
    unittest.main()
