"""Promises 2 and 4 to 6: terms, read from their texts, and parts' names."""

import random
import re
import unittest

from unwritparts.errors import NoTerm, TooMuch
from unwritparts.terms import Term, is_part_name

WORDS = {
    "sum": 2, "less": 2, "times": 2, "below": 2, "if": 3, "pair": 2, "first": 1, "second": 1, "call": 2,
}
TERMS = (
    "0", "7", "10", "999999999999", "-1", "-999999999999", "a", "abcd", "if", "let", "sum", "A", "ABCDEF", "SUM",
    "(sum 1 2)", "(less -1 X)", "(times a b)", "(below 0 1)", "(if c 1 (sum 1 2))", "(pair A B)", "(first P)",
    "(second (pair 1 2))", "(let x 1 x)", "(let let let let)", "(def x x)", "(def def def)", "(call F 1)",
    "(call (def f (call f f)) (def f (call f f)))", "(let abcd (let wxyz 1 wxyz) (sum abcd ABCDEF))",
)
NO_TEXTS = (None, True, False, 0, 1, -12, 10 ** 59, [], (), ["1"], ("1",), [["(sum 1 2)"], ("x", None)], b"1", 1.5)
SIGNS = ("0", "1", "12", "-", "a", "x", "A", "Q", "(", ")", " ", "sum", "(let ", "(first ", "(if 1 ", " 0)", "!")

# Another way of reading, by patterns: whole terms are put as @ until none is left.
ATOM = "(?:0|-?[1-9][0-9]{0,11}|[a-z]{1,4}|[A-Z]{1,6}|@)"
TWO = "(?:sum|less|times|below|pair|call)"
ONE = "(?:first|second)"
WHOLE = (
    rf"\((?:{TWO} {ATOM} {ATOM}|if {ATOM} {ATOM} {ATOM}|{ONE} {ATOM}|let [a-z]{{1,4}} {ATOM} {ATOM}"
    rf"|def [a-z]{{1,4}} {ATOM})\)"
)
OPEN = rf"\((?:{TWO} (?:{ATOM} )?|if (?:{ATOM} ){{0,2}}|{ONE} |let [a-z]{{1,4}} (?:{ATOM} )?|def [a-z]{{1,4}} )"
HALF = "|".join(
    sorted({word[:many] for word in (*WORDS, "let", "def") for many in range(len(word) + 1)})
)
BEGINNING = rf"(?:{OPEN})*(?:{ATOM}?|-|\((?:{HALF}|(?:let|def) [a-z]{{0,4}}))"


def put_whole(text):
    while True:
        shorter = re.sub(WHOLE, "@", text)
        if shorter == text:
            return text
        text = shorter


def is_text_of_a_term(text):
    return "@" not in text and re.fullmatch(ATOM, put_whole(text)) is not None


def longest_beginning(text):
    return max(many for many in range(len(text) + 1) if re.fullmatch(BEGINNING, put_whole(text[:many])))


def spot_of(thing):
    """The spot with which a thing is refused; None where it isn't."""
    try:
        Term(thing)
    except NoTerm as refusal:
        return refusal.spot
    return None


def nest(many, inner):
    return "(first " * many + inner + ")" * many


def wide(many):
    """A term's text of just so many terms, not deep."""
    if many == 1:
        return "1"
    if many == 2:
        return "(first 1)"
    half = (many - 1) // 2
    return f"(sum {wide(half)} {wide(many - 1 - half)})"


class ReadingTest(unittest.TestCase):
    def test_each_form_is_read(self):
        for text in TERMS:
            with self.subTest(text):
                self.assertEqual(str(Term(text)), text)

    def test_numbers(self):
        for figures in range(1, 13):
            for text in ("9" * figures, "1" + "0" * (figures - 1), "-" + "9" * figures):
                self.assertEqual(Term(text).form(), "number")
        self.assertEqual(Term("0").form(), "number")
        self.assertEqual(spot_of("1234567890123"), 12)
        self.assertEqual(spot_of("-1234567890123"), 13)
        for text in ("-", "-0", "--1", "-a", "- 1"):
            self.assertEqual(spot_of(text), 1, text)
        for text in ("00", "01", "0-", "012345"):
            self.assertEqual(spot_of(text), 1, text)
        for text in ("-01", "-00"):
            self.assertEqual(spot_of(text), 1, text)
        for text in ("+1", ".5", "\u0661", "\u00b2"):
            self.assertEqual(spot_of(text), 0, text)
        self.assertEqual(spot_of("1_0"), 1)
        self.assertEqual(spot_of("1\u0661"), 1)
        self.assertEqual(spot_of("(sum -0 1)"), 6)

    def test_small_names(self):
        for text in ("a", "zz", "abc", "wxyz"):
            self.assertEqual(Term(text).form(), "name")
        self.assertEqual(spot_of("abcde"), 4)
        self.assertEqual(spot_of("times"), 4)
        self.assertEqual(spot_of("aB"), 1)
        self.assertEqual(spot_of("a1"), 1)
        self.assertEqual(spot_of("\u00e9"), 0)

    def test_parts_names(self):
        for text in ("A", "ZZ", "ABCDEF"):
            self.assertEqual(Term(text).form(), "part")
        self.assertEqual(spot_of("ABCDEFG"), 6)
        self.assertEqual(spot_of("Ab"), 1)
        self.assertEqual(spot_of("A1"), 1)
        self.assertEqual(spot_of("\u00c9"), 0)

    def test_is_part_name(self):
        for text in ("A", "Z", "AB", "ABC", "ABCD", "ABCDE", "ABCDEF"):
            self.assertIs(is_part_name(text), True)
        others = ("", "ABCDEFG", "a", "Ab", "A1", "A ", " A", "A B", "?", "P.1", "\u00c9", "1", "A\n")
        for thing in others + NO_TEXTS + (["A"], ("A",), b"A"):
            self.assertIs(is_part_name(thing), False, thing)
        self.assertIs(is_part_name(thing="A"), True)

    def test_the_examples_of_spot(self):
        self.assertEqual(spot_of("(sun 1 2)"), 3)
        self.assertEqual(spot_of("12 "), 2)
        self.assertEqual(spot_of(""), 0)
        self.assertEqual(spot_of("(sum 1 "), 7)

    def test_just_one_blank_where_one_stands(self):
        self.assertEqual(spot_of("(sum1 2)"), 4)
        self.assertEqual(spot_of("(sum  1 2)"), 5)
        self.assertEqual(spot_of("(sum 1  2)"), 7)
        self.assertEqual(spot_of("(sum 1(first 2))"), 6)
        self.assertEqual(spot_of("(sum 1 2 )"), 8)
        self.assertEqual(spot_of("( sum 1 2)"), 1)
        self.assertEqual(spot_of(" 1"), 0)
        self.assertEqual(spot_of("(letx 1 2)"), 4)
        self.assertEqual(spot_of("(let  x 1 2)"), 5)
        self.assertEqual(spot_of("(def x  1)"), 7)
        self.assertEqual(spot_of("(sum\t1 2)"), 4)
        self.assertEqual(spot_of("(sum 1 2)\n"), 9)

    def test_as_many_terms_as_the_word_takes(self):
        self.assertEqual(spot_of("(sum)"), 4)
        self.assertEqual(spot_of("(sum 1)"), 6)
        self.assertEqual(spot_of("(sum 1 2 3)"), 8)
        self.assertEqual(spot_of("(if 1 2)"), 7)
        self.assertEqual(spot_of("(first 1 2)"), 8)
        self.assertEqual(spot_of("(def x 1 2)"), 8)
        self.assertEqual(spot_of("(let x 1)"), 8)
        self.assertEqual(spot_of("(let x 1 2 3)"), 10)
        self.assertEqual(spot_of("()"), 1)
        self.assertEqual(spot_of("(sum 1 2))"), 9)
        self.assertEqual(spot_of("1 2"), 1)

    def test_small_name_behind_let_and_def(self):
        self.assertEqual(spot_of("(let X 1 2)"), 5)
        self.assertEqual(spot_of("(def 1 2)"), 5)
        self.assertEqual(spot_of("(let abcde 1 2)"), 9)
        self.assertEqual(spot_of("(def (first x) 2)"), 5)
        self.assertEqual(spot_of("(let"), 4)
        self.assertEqual(spot_of("(let "), 5)

    def test_words(self):
        for text, spot in (
            ("(SUM 1 2)", 1), ("(1 2)", 1), ("(sums 1 2)", 4), ("(timer", 5), ("(lest 1 2)", 4), ("(firs", 5),
            ("(fi)", 3), ("(defx 1)", 4), ("((sum 1 2))", 1), ("(ifs", 3),
        ):
            self.assertEqual(spot_of(text), spot, text)

    def test_texts_that_are_cut_off(self):
        whole = 0
        for text in TERMS:
            for end in range(len(text)):
                spot = spot_of(text[:end])
                if spot is None:
                    whole += 1
                    self.assertNotIn(text[:end][-1:], ("", " ", "-", "("))
                else:
                    self.assertEqual(spot, end, text[:end])
        self.assertGreater(whole, 0)

    def test_texts_with_a_sign_put_in_or_put_otherwise(self):
        for text in TERMS:
            for at in range(len(text) + 1):
                self.assertEqual(spot_of(text[:at] + "!" + text[at:]), at)
                self.assertEqual(spot_of(text[:at] + "~" + text[at + 1:]), at)

    def test_texts_with_a_sign_left_out(self):
        for text, spot in (
            ("sum 1 2)", 3), ("(um 1 2)", 1), ("(sm 1 2)", 2), ("(su 1 2)", 3), ("(sum1 2)", 4), ("(sum  2)", 5),
            ("(sum 12)", 7), ("(sum 1 )", 7), ("(sum 1 2", 8),
        ):
            self.assertEqual(spot_of(text), spot, text)
        for text in TERMS:
            for at in range(len(text)):
                left = text[:at] + text[at + 1:]
                spot = None if is_text_of_a_term(left) else longest_beginning(left)
                self.assertEqual(spot_of(left), spot, left)

    def test_texts_by_another_way_of_reading(self):
        chance = random.Random(5)
        refused = 0
        for _ in range(3000):
            text = list(chance.choice(TERMS))
            for _ in range(chance.randrange(3)):
                at = chance.randrange(len(text) + 1)
                text[at:at + chance.randrange(3)] = chance.choice(SIGNS + ("",))
            text = "".join(text)
            spot = None if is_text_of_a_term(text) else longest_beginning(text)
            self.assertEqual(spot_of(text), spot, text)
            refused += spot is not None
        self.assertGreater(refused, 1000)
        self.assertLess(refused, 2900)

    def test_what_is_no_text_has_spot_0(self):
        for thing in NO_TEXTS:
            self.assertEqual(spot_of(thing), 0, thing)

    def test_brackets_open_at_once(self):
        self.assertEqual(len(Term(nest(30, "1"))), 31)
        for many in (31, 32, 100):
            with self.assertRaises(TooMuch) as told:
                Term(nest(many, "1"))
            self.assertEqual(told.exception.what, "deep")
        row = "1"
        for _ in range(29):
            row = f"(sum {row} (first 2))"
        self.assertEqual(len(Term(row)), 1 + 3 * 29)
        with self.assertRaises(TooMuch) as told:
            Term(f"(sum (first 1) (sum 1 {row}))")
        self.assertEqual(told.exception.what, "deep")

    def test_terms_in_one(self):
        for many in (1, 2, 3, 199, 200):
            self.assertEqual(len(Term(wide(many))), many)
        for many in (201, 202, 400, 900):
            with self.assertRaises(TooMuch) as told:
                Term(wide(many))
            self.assertEqual(told.exception.what, "many")

    def test_small_names_behind_let_are_no_terms(self):
        text = f"(let x {wide(99)} {wide(100)})"
        self.assertEqual(len(Term(text)), 200)
        with self.assertRaises(TooMuch):
            Term(f"(let x {wide(100)} {wide(100)})")

    def test_deep_goes_ahead_of_many(self):
        with self.assertRaises(TooMuch) as told:
            Term(f"(sum {wide(300)} {nest(30, '1')})")
        self.assertEqual(told.exception.what, "deep")

    def test_no_term_goes_ahead_of_too_much(self):
        deep = nest(100, "1")
        self.assertEqual(spot_of(deep + ")"), len(deep))
        self.assertEqual(spot_of(deep[:-1]), len(deep) - 1)
        self.assertEqual(spot_of("(first " * 570), 7 * 570)
        many = wide(300)
        self.assertEqual(spot_of(many + " "), len(many))
        self.assertEqual(spot_of(many[:-1] + "!"), len(many) - 1)


class TermTest(unittest.TestCase):
    def test_form_bound_and_inner(self):
        rows = (
            ("12", "number", None, []), ("x", "name", None, []), ("X", "part", None, []),
            ("(let x A (sum x 1))", "let", "x", ["A", "(sum x 1)"]), ("(def y (first y))", "def", "y", ["(first y)"]),
        )
        for text, form, bound, inner in rows:
            with self.subTest(text):
                term = Term(text)
                self.assertEqual(term.form(), form)
                self.assertEqual(term.bound(), bound)
                self.assertEqual([str(one) for one in term.inner()], inner)
        for word, many in WORDS.items():
            inner = ["(pair 1 P)", "x", "Q"][:many]
            term = Term(f"({word} {' '.join(inner)})")
            self.assertEqual(term.form(), word)
            self.assertIsNone(term.bound())
            self.assertEqual(term.inner(), [Term(text) for text in inner])

    def test_len_str_repr_truth(self):
        rows = (
            ("0", 1), ("x", 1), ("X", 1), ("(sum 1 X)", 3), ("(first A)", 2), ("(if 1 2 3)", 4), ("(def x x)", 2),
            ("(let x (def y y) (call x 1))", 6),
        )
        for text, many in rows:
            with self.subTest(text):
                term = Term(text)
                self.assertEqual(len(term), many)
                self.assertEqual(str(term), text)
                self.assertEqual(repr(term), "Term('" + text + "')")
                self.assertTrue(term)

    def test_equal_where_texts_are(self):
        for one in TERMS:
            for other in TERMS:
                self.assertIs(Term(one) == Term(other), one == other)
                self.assertIs(Term(one) != Term(other), one != other)
            for thing in (one, None, 0, [one], (one,)):
                self.assertFalse(Term(one) == thing)
                self.assertFalse(thing == Term(one))

    def test_free_names(self):
        rows = (
            ("1", []), ("X", []), ("x", ["x"]), ("(sum b (sum a b))", ["a", "b"]), ("(def x x)", []),
            ("(def x (sum x y))", ["y"]), ("(let x x x)", ["x"]), ("(let x 1 x)", []), ("(let x y x)", ["y"]),
            ("(let x (sum x z) (sum y x))", ["x", "y", "z"]), ("(def x (def x x))", []),
            ("(def x (def y (sum x z)))", ["z"]), ("(sum (def x x) x)", ["x"]), ("(let x 1 (let x x x))", []),
            ("(let x 1 (let y x (sum x y)))", []), ("(call (def x x) x)", ["x"]), ("(def x (let x x x))", []),
            ("(if c b a)", ["a", "b", "c"]), ("(pair ab (pair b aa))", ["aa", "ab", "b"]),
            ("(let x (let x 1 x) x)", []), ("(let x (def x x) y)", ["y"]), ("(let x y 1)", ["y"]),
        )
        for text, names in rows:
            self.assertEqual(Term(text).free_names(), names, text)

    def test_part_names(self):
        rows = (
            ("1", []), ("x", []), ("X", ["X"]), ("(sum B (sum A B))", ["A", "B"]), ("(let x X (def y (call Y Z)))",
            ["X", "Y", "Z"]), ("(if P (pair Q P) PP)", ["P", "PP", "Q"]),
        )
        for text, names in rows:
            self.assertEqual(Term(text).part_names(), names, text)

    def test_every_list_is_the_askers_own(self):
        term = Term("(let x (sum a A) (pair B b))")
        for ask in (term.inner, term.free_names, term.part_names):
            told = ask()
            self.assertIsInstance(told, list)
            again = list(told)
            told.append("more")
            told.reverse()
            self.assertEqual(ask(), again)
            ask().clear()
            self.assertEqual(ask(), again)
        self.assertEqual((str(term), len(term)), ("(let x (sum a A) (pair B b))", 7))

    def test_inner_terms_are_terms_of_their_own(self):
        for text in TERMS:
            for inner in Term(text).inner():
                self.assertIsInstance(inner, Term)
                self.assertEqual(inner, Term(str(inner)))
                self.assertIn(str(inner), text)

    def test_text_by_name(self):
        self.assertEqual(Term(text="(sum 1 X)"), Term("(sum 1 X)"))
        with self.assertRaises(NoTerm):
            Term(text=None)


if __name__ == "__main__":
    unittest.main()
