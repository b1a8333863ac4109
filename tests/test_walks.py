"""Promises 2 and 7 to 9: walks."""

import copy
import random
import unittest

from helper import BOUND, OtherWalk, chance_term
from unwritparts.terms import Term
from unwritparts.walks import Walk, walked

NUMBER = ("number", 5)
PAIR = ("pair", "Q.1", "Q.2")
DEF = ("def", "x", "x", ())
FAULT = ("fault", "great", "Q")
RING = ("ring", ("P", "Q"))
WAITS = ("waits", "R")


def walk(text, gots=(), names=(), knot="P"):
    return walked(knot, Term(text), names, list(gots))


def fields(told):
    return (told.needs, told.steps, told.made, told.end)


def read_all(parts, text):
    """What a term comes to by walks alone, pairs read to the bottom: numbers and Python's tuples."""
    senses = {name: (Term(term), ()) for name, term in parts.items()}
    senses["?"] = (Term(text), ())
    ends = {}

    def end_of(knot):
        gots = []
        while knot not in ends:
            told = walked(knot, *senses[knot], gots)
            for made, row, names in told.made:
                senses[made] = (Term(row), names)
            if told.end is None:
                gots.append(end_of(told.needs[-1]))
            else:
                ends[knot] = told.end
        return ends[knot]

    def whole(knot):
        end = end_of(knot)
        if end[0] == "pair":
            return (whole(end[1]), whole(end[2]))
        return end[1] if end[0] == "number" else end

    return whole("?")


class FormsTest(unittest.TestCase):
    def check(self, told, needs, steps, made, end):
        self.assertIsInstance(told, Walk)
        self.assertEqual(fields(told), (needs, steps, made, end))

    def test_number(self):
        for number in (0, 1, -1, 999999999999, -999999999999):
            self.check(walk(str(number)), [], 1, [], ("number", number))

    def test_sum_less_times_below(self):
        for text, number in (
            ("(sum 1 2)", 3), ("(sum -5 2)", -3), ("(less 1 2)", -1), ("(less 2 1)", 1), ("(times 3 -4)", -12),
            ("(times 0 5)", 0), ("(below 1 2)", 1), ("(below 2 1)", 0), ("(below 2 2)", 0), ("(below -3 -2)", 1),
        ):
            told = walk(text)
            self.check(told, [], 3, [], ("number", number))
            self.assertIs(type(told.end[1]), int)

    def test_names_and_parts_are_needed(self):
        self.check(walk("x", names=(("x", "Q.3"),)), ["Q.3"], 1, [], None)
        self.check(walk("X"), ["X"], 1, [], None)
        self.check(walk("P"), ["P"], 1, [], None)
        for got in (NUMBER, PAIR, DEF, FAULT, RING, WAITS):
            self.check(walk("x", [got], (("x", "Q.3"),)), ["Q.3"], 1, [], got)
            self.check(walk("X", [got]), ["X"], 1, [], got)

    def test_left_ahead_of_right(self):
        self.check(walk("(sum A B)"), ["A"], 2, [], None)
        self.check(walk("(sum A B)", [NUMBER]), ["A", "B"], 3, [], None)
        self.check(walk("(less A B)", [NUMBER, ("number", 7)]), ["A", "B"], 3, [], ("number", -2))
        self.check(walk("(times A A)", [NUMBER, NUMBER]), ["A", "A"], 3, [], ("number", 25))

    def test_bounds(self):
        for text in ("(sum X 0)", "(less X 0)", "(times X 1)", "(below X 0)"):
            for number in (BOUND, -BOUND):
                self.assertEqual(walk(text, [("number", number)]).end[0], "number", text)
        self.check(walk("(sum X 0)", [("number", BOUND)]), ["X"], 3, [], ("number", BOUND))
        self.check(walk("(less X 0)", [("number", -BOUND)]), ["X"], 3, [], ("number", -BOUND))
        self.check(walk("(sum X 1)", [("number", BOUND)]), ["X"], 3, [], ("fault", "great", "P"))
        self.check(walk("(sum X -1)", [("number", -BOUND)]), ["X"], 3, [], ("fault", "great", "P"))
        self.check(walk("(less X -1)", [("number", BOUND)]), ["X"], 3, [], ("fault", "great", "P"))
        self.check(walk("(less X 1)", [("number", -BOUND)]), ["X"], 3, [], ("fault", "great", "P"))
        self.check(walk("(sum 999999999999 1)"), [], 3, [], ("number", BOUND))
        self.check(walk("(sum 999999999999 2)"), [], 3, [], ("fault", "great", "P"))
        self.check(walk("(less -999999999999 1)"), [], 3, [], ("number", -BOUND))
        self.check(walk("(less -999999999999 2)"), [], 3, [], ("fault", "great", "P"))
        self.check(walk("(times 1000000 1000000)"), [], 3, [], ("number", BOUND))
        self.check(walk("(times 1000000 1000001)"), [], 3, [], ("fault", "great", "P"))
        self.check(walk("(times -1000000 1000000)"), [], 3, [], ("number", -BOUND))
        self.check(walk("(times -1000000 1000001)"), [], 3, [], ("fault", "great", "P"))
        self.check(walk("(first (sum 999999999999 2))"), [], 4, [], ("fault", "great", "P"))
        self.check(walk("(sum (times 1000000 1000001) X)", knot="P.1.4"), [], 4, [], ("fault", "great", "P.1.4"))

    def test_if(self):
        self.check(walk("(if 1 2 X)"), [], 3, [], ("number", 2))
        self.check(walk("(if -1 2 X)"), [], 3, [], ("number", 2))
        self.check(walk("(if 0 X 3)"), [], 3, [], ("number", 3))
        self.check(walk("(if C A B)", [("number", 0)]), ["C", "B"], 3, [], None)
        self.check(walk("(if C A B)", [NUMBER, PAIR]), ["C", "A"], 3, [], PAIR)
        self.check(walk("(if C A B)", [("number", 0), DEF]), ["C", "B"], 3, [], DEF)
        self.check(walk("(if (if 0 0 2) (if 0 1 4) 0)"), [], 7, [], ("number", 4))

    def test_pair(self):
        made = [("P.1", "(sum x 1)", (("x", "Q.1"),)), ("P.2", "y", (("y", "R"),))]
        names = (("x", "Q.1"), ("y", "R"))
        self.check(walk("(pair (sum x 1) y)", (), names), [], 1, made, ("pair", "P.1", "P.2"))
        self.check(walk("(pair A A)"), [], 1, [("P.1", "A", ()), ("P.2", "A", ())], ("pair", "P.1", "P.2"))

    def test_first_and_second(self):
        made = [("P.1", "1", ()), ("P.2", "2", ())]
        self.check(walk("(first (pair 1 2))"), ["P.1"], 2, made, None)
        self.check(walk("(second (pair 1 2))"), ["P.2"], 2, made, None)
        self.check(walk("(second (pair 1 2))", [PAIR]), ["P.2"], 2, made, PAIR)
        self.check(walk("(first A)"), ["A"], 2, [], None)
        self.check(walk("(first A)", [PAIR]), ["A", "Q.1"], 2, [], None)
        self.check(walk("(second A)", [PAIR, NUMBER]), ["A", "Q.2"], 2, [], NUMBER)
        self.check(walk("(sum (first A) (second A))", [PAIR, NUMBER, PAIR, NUMBER]), ["A", "Q.1", "A", "Q.2"], 5, [],
                   ("number", 10))
        self.check(walk("(first (second A))", [PAIR, ("pair", "A", "B")]), ["A", "Q.2", "A"], 3, [], None)

    def test_let(self):
        self.check(walk("(let x 1 2)"), [], 2, [("P.1", "1", ())], ("number", 2))
        self.check(walk("(let x 1 x)"), ["P.1"], 2, [("P.1", "1", ())], None)
        self.check(walk("(let x 1 x)", [NUMBER]), ["P.1"], 2, [("P.1", "1", ())], NUMBER)
        made = [("P.1", "(sum x y)", (("x", "A"), ("y", "B")))]
        names = (("x", "A"), ("y", "B"))
        self.check(walk("(let x (sum x y) (sum x y))", [NUMBER], names), ["P.1", "B"], 4, made, None)

    def test_let_hides_for_its_second_term_alone(self):
        made = [("P.1", "1", ()), ("P.2", "x", (("x", "P.1"),))]
        self.check(walk("(let x 1 (let x x x))"), ["P.2"], 3, made, None)
        made = [("P.1", "1", ())]
        told = walk("(sum (let x 1 x) x)", [NUMBER], (("x", "Q"),))
        self.check(told, ["P.1", "Q"], 4, made, None)

    def test_def(self):
        self.check(walk("(def x (sum x 1))"), [], 1, [], ("def", "x", "(sum x 1)", ()))
        names = (("y", "A"), ("z", "B"))
        self.check(walk("(def x (pair z (sum x y)))", (), names), [], 1, [],
                   ("def", "x", "(pair z (sum x y))", (("y", "A"), ("z", "B"))))
        self.check(walk("(let x 1 (def y (call y x)))"), [], 2, [("P.1", "1", ())],
                   ("def", "y", "(call y x)", (("x", "P.1"),)))
        self.check(walk("(let x 1 (def x x))"), [], 2, [("P.1", "1", ())], ("def", "x", "x", ()))

    def test_call(self):
        self.check(walk("(call (def x 7) 1)"), [], 3, [("P.1", "1", ())], ("number", 7))
        self.check(walk("(call (def x x) 1)"), ["P.1"], 3, [("P.1", "1", ())], None)
        self.check(walk("(call (def x (sum x 1)) 1)", [NUMBER]), ["P.1"], 5, [("P.1", "1", ())], ("number", 6))
        self.check(walk("(call F (sum A B))", [DEF, PAIR]), ["F", "P.1"], 3, [("P.1", "(sum A B)", ())], PAIR)
        self.check(walk("(call F 1)"), ["F"], 2, [], None)

    def test_a_call_has_the_names_of_the_def(self):
        told = walk("(call F (sum x y))", [("def", "x", "(sum y (sum x 1))", (("y", "G.2"),)), NUMBER],
                    (("x", "A"), ("y", "B")))
        self.check(told, ["F", "G.2", "P.1"], 6, [("P.1", "(sum x y)", (("x", "A"), ("y", "B")))], None)
        told = walk("(let x 1 (sum (call (def y (let x 2 (call y x))) (def z z)) x))", [("def", "z", "z", ()), NUMBER])
        self.check(told, ["P.2", "P.4", "P.1"], 9, [
            ("P.1", "1", ()), ("P.2", "(def z z)", ()), ("P.3", "2", ()), ("P.4", "x", (("x", "P.3"),)),
        ], None)
        told = walk("(sum (call F 1) x)", [DEF, NUMBER], (("x", "A"),))
        self.check(told, ["F", "P.1", "A"], 5, [("P.1", "1", ())], None)

    def test_faults(self):
        others = {"number": (PAIR, DEF), "pair": (NUMBER, DEF), "def": (NUMBER, PAIR)}
        for text, word, steps in (
            ("(sum A B)", "number", 2), ("(less A B)", "number", 2), ("(times A B)", "number", 2),
            ("(below A B)", "number", 2), ("(if A B C)", "number", 2), ("(first A)", "pair", 2),
            ("(second A)", "pair", 2), ("(call A B)", "def", 2),
        ):
            for head in others[word]:
                self.check(walk(text, [head, NUMBER, NUMBER], knot="Q.2"), ["A"], steps, [], ("fault", word, "Q.2"))
        for text in ("(sum A B)", "(less A B)", "(times A B)", "(below A B)"):
            for head in (PAIR, DEF):
                self.check(walk(text, [NUMBER, head]), ["A", "B"], 3, [], ("fault", "number", "P"))

    def test_faults_of_what_stands_there_itself(self):
        made = [("P.1", "1", ()), ("P.2", "2", ())]
        for text, steps, ahead, end in (
            ("(sum (pair 1 2) X)", 2, made, "number"), ("(sum 1 (pair 1 2))", 3, made, "number"),
            ("(sum (def x x) X)", 2, [], "number"), ("(if (def x x) 1 2)", 2, [], "number"),
            ("(first 1)", 2, [], "pair"), ("(second (def x x))", 2, [], "pair"), ("(call 1 X)", 2, [], "def"),
            ("(call (pair 1 2) X)", 2, made, "def"), ("(first (if 1 2 3))", 4, [], "pair"),
            ("(first (sum (def x x) 1))", 3, [], "number"), ("(sum 1 (first 2))", 4, [], "pair"),
        ):
            self.check(walk(text), [], steps, ahead, ("fault", end, "P"))

    def test_what_comes_to_no_head_ends_the_walk(self):
        for got in (FAULT, RING, WAITS):
            for text in ("(sum A B)", "(if A 1 2)", "(first A)", "(call A 1)", "(sum (first A) 1)"):
                told = walk(text, [got, NUMBER])
                self.assertEqual((told.needs, told.end), (["A"], got))
            self.check(walk("(sum A B)", [NUMBER, got]), ["A", "B"], 3, [], got)
            self.check(walk("(first A)", [PAIR, got]), ["A", "Q.1"], 2, [], got)
            self.check(walk("(let x A (sum 1 x))", [got]), ["P.1"], 4, [("P.1", "A", ())], got)


class WalkTest(unittest.TestCase):
    def test_told_of_less_of_just_that_and_of_more(self):
        text = "(let f F (if (below X 3) (sum (call f X) (first Y)) (call f 2)))"
        gots = [("number", 2), ("def", "n", "(times n k)", (("k", "F.1"),)), ("number", 4), ("number", 10), PAIR,
                ("number", 6)]
        needs = ["X", "P.1", "P.2", "F.1", "Y", "Q.1"]
        made = [("P.1", "F", ()), ("P.2", "X", ())]
        steps = [4, 8, 10, 11, 13, 13, 13]
        for many in range(7):
            told = walk(text, gots[:many])
            self.assertEqual(told.needs, needs[:many + 1])
            self.assertEqual(told.steps, steps[many])
            self.assertEqual(told.made, made[:1] if many < 2 else made)
            self.assertEqual(told.end, ("number", 46) if many == 6 else None)
        for more in ([NUMBER], [None], [FAULT, "what"], ["", [], 7]):
            self.assertEqual(fields(walk(text, gots + more)), fields(walk(text, gots)))

    def test_more_than_nine_knots(self):
        text = "(pair j a)"
        for number in range(9, 0, -1):
            text = f"(let {'abcdefghi'[number - 1]} {number} {text})"
        told = walk(text, (), (("j", "Q"),))
        self.assertEqual([knot for knot, _, _ in told.made], [f"P.{number}" for number in range(1, 12)])
        self.assertEqual(told.made[8:], [("P.9", "9", ()), ("P.10", "j", (("j", "Q"),)), ("P.11", "a", (("a", "P.1"),))])
        self.assertEqual(told.end, ("pair", "P.10", "P.11"))

    def test_knots_made_are_named_behind_their_maker(self):
        for knot in ("P", "?", "P.1.4", "?.10"):
            told = walk("(pair 1 2)", knot=knot)
            self.assertEqual(told.end, ("pair", knot + ".1", knot + ".2"))
            self.assertEqual(told.made, [(knot + ".1", "1", ()), (knot + ".2", "2", ())])
            self.assertEqual(walk("(sum 1 (def x x))", knot=knot).end, ("fault", "number", knot))

    def test_what_is_told_of_knots_that_it_makes_is_taken(self):
        self.assertEqual(walk("(let x 1 (sum x x))", [NUMBER, NUMBER]).end, ("number", 10))
        self.assertEqual(walk("(let x 1 (first x))", [PAIR, RING]).end, RING)

    def test_arguments_by_name(self):
        term = Term("(sum x (pair 1 2))")
        names = (("x", "A.1"),)
        by_place = walked("P.3", term, names, [NUMBER])
        by_name = walked(gots=[NUMBER], names=names, term=term, knot="P.3")
        self.assertEqual(fields(by_place), fields(by_name))

    def test_what_is_handed_in_stays_as_it_was(self):
        term, names = Term("(let y x (sum y (call F x)))"), (("x", "A.1"),)
        gots = [NUMBER, ("def", "z", "(sum z k)", (("k", "B"),)), NUMBER, NUMBER, PAIR]
        before = copy.deepcopy(gots)
        first = walked("P", term, names, gots)
        self.assertEqual((gots, str(term), names), (before, "(let y x (sum y (call F x)))", (("x", "A.1"),)))
        seen = copy.deepcopy(fields(first))
        gots.clear()
        self.assertEqual(fields(first), seen)

    def test_lists_are_new_ones(self):
        term, gots = Term("(pair (sum A x) x)"), []
        first = walked("P", term, (("x", "A.1"),), gots)
        seen = copy.deepcopy(fields(first))
        first.needs.append("Z")
        first.made.clear()
        self.assertEqual(fields(walked("P", term, (("x", "A.1"),), gots)), seen)
        needs, made = ["A"], [("P.1", "1", ())]
        own = Walk(needs, 2, made, None)
        needs.clear()
        made.clear()
        self.assertEqual(fields(own), (["A"], 2, [("P.1", "1", ())], None))

    def test_kinds(self):
        told = walk("(let x 1 (pair x 2))")
        self.assertTrue(told)
        self.assertEqual([type(thing) for thing in fields(told)], [list, int, list, tuple])
        self.assertTrue(all(type(row) is tuple and type(row[2]) is tuple for row in told.made))

    def test_by_another_way_of_walking(self):
        chance = random.Random(8)
        heads = [NUMBER, ("number", 0), ("number", -BOUND), PAIR, ("pair", "P.1", "P"), DEF,
                 ("def", "y", "(sum y x)", (("x", "Q.1"),)), ("def", "f", "(call f (pair f f))", ()), FAULT, WAITS]
        names = (("x", "A"), ("y", "B.1"))
        ends = []
        for _ in range(4000):
            term = Term(chance_term(chance, 4))
            gots = [chance.choice(heads) for _ in range(chance.randrange(6))]
            sense = tuple(row for row in names if row[0] in term.free_names())
            told = walked("P", term, sense, gots)
            self.assertEqual(fields(told), fields(OtherWalk("P", term, sense, gots)), (str(term), gots))
            ends.append(told.end and told.end[0])
        for kind in ("number", "pair", "def", "fault", "waits", None):
            self.assertGreater(ends.count(kind), 50, kind)


class DeepTest(unittest.TestCase):
    def test_terms_as_deep_as_may_be(self):
        text = "1"
        for _ in range(30):
            text = f"(sum 1 {text})"
        self.assertEqual(fields(walk(text)), ([], 61, [], ("number", 31)))
        text = "1"
        for _ in range(30):
            text = f"(sum {text} 1)"
        self.assertEqual(walk(text).end, ("number", 31))
        text = "n"
        for _ in range(30):
            text = f"(let n {text} n)" if text == "n" else f"(let n 1 {text})"
        told = walk(text, [NUMBER])
        self.assertEqual((told.steps, told.made[-1], told.end), (31, ("P.30", "n", (("n", "P.29"),)), NUMBER))

    def test_many_steps_that_wait_within_one_another(self):
        body = ("def", "x", "(sum 1 (call F x))", ())
        many = 1250
        told = walk("(call F 0)", [body] * (many - 1))
        self.assertEqual((len(told.needs), told.steps, told.end), (many, 2 + 4 * (many - 1), None))
        told = walk("(call F 0)", [body] * (many - 1) + [("def", "x", "7", ())])
        self.assertEqual((told.steps, told.end), (3 + 4 * (many - 1), ("number", 7 + many - 1)))
        self.assertEqual(told.made[-1], (f"P.{many}", "x", (("x", f"P.{many - 1}"),)))

    def test_many_steps_one_behind_another(self):
        body = ("def", "x", "(if x (call F (less x 1)) 0)", ())
        gots = []
        for number in range(900, -1, -1):
            gots.extend([body, ("number", number)])
        told = walk("(call F 900)", gots)
        self.assertEqual((len(told.needs), told.steps, told.end), (1802, 2 + 4 * 900 + 3, ("number", 0)))

    def test_programs_come_to_what_they_say(self):
        parts = {
            "FACT": "(def n (if (below n 1) 1 (times n (call FACT (less n 1)))))",
            "FIB": "(def n (if (below n 2) n (sum (call FIB (less n 1)) (call FIB (less n 2)))))",
            "FROM": "(def n (pair n (call FROM (sum n 1))))",
            "TAKE": "(def n (def l (if n (pair (first l) (call (call TAKE (less n 1)) (second l))) 0)))",
            "MAP": "(def f (def l (pair (call f (first l)) (call (call MAP f) (second l)))))",
            "ADD": "(def x (def y (sum x y)))",
        }
        self.assertEqual(read_all(parts, "(call FACT 10)"), 3628800)
        self.assertEqual(read_all(parts, "(call FIB 8)"), 21)
        self.assertEqual(read_all(parts, "(call (call TAKE 3) (call FROM 5))"), (5, (6, (7, 0))))
        self.assertEqual(
            read_all(parts, "(call (call TAKE 3) (call (call MAP (call ADD 10)) (call FROM 1)))"),
            (11, (12, (13, 0))),
        )
        self.assertEqual(read_all(parts, "(call FACT 16)")[:2], ("fault", "great"))


if __name__ == "__main__":
    unittest.main()
