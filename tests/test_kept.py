"""Promises 16 and 17: what is kept, and how many steps were done."""

import random
import unittest

from helper import KINDS, OtherHouse, chance_closed, chance_part, chance_parts, terms_of
from unwritparts.errors import Bare, Full, Loose, NoLack, NoName, NoPart, Written
from unwritparts.houses import House
from unwritparts.lacks import lack, wanted
from unwritparts.terms import Term


class CountedTest(unittest.TestCase):
    """Each telling is held against a row and a number of steps done for it, both counted by hand."""

    def house(self, **parts):
        self.stands = House(terms_of(parts))
        self.counted = 0

    def write(self, name, text):
        self.stands.write(name, Term(text))

    def strike(self, name):
        self.stands.strike(name)

    def back(self):
        self.stands.back()

    def tell(self, text, row, steps, most=1000):
        told = str(self.stands.tell(Term(text), most=most))
        before = self.counted
        self.counted = self.stands.done()
        self.assertEqual((told, self.counted - before), (row, steps))


class KeptTest(CountedTest):
    """What is done again behind a deed, and what isn't."""

    def test_told_again(self):
        self.house(P="(sum Q Q)", Q="(sum 1 2)")
        self.assertEqual(self.stands.done(), 0)
        # A step of ?, three of P, three of Q; one bottom, which isn't counted here.
        self.tell("P", "word 6 8 by P Q", 7)
        self.tell("P", "word 6 8 by P Q", 0)
        self.tell("P", "word 6 8 by P Q", 0, most=8)
        self.assertEqual(self.stands.done(), 7)

    def test_bottoms_do_not_count(self):
        self.house(P="(pair Q Q)", Q="(pair 1 1)")
        # One step of each of ?, P, P.1, P.2, Q, Q.1, Q.2; seven bottoms.
        self.tell("P", "word [[1 1] [1 1]] 14 by P Q", 7)
        self.tell("P", "word [[1 1] [1 1]] 14 by P Q", 0)

    def test_two_terms_share_parts(self):
        self.house(P="(sum Q Q)", Q="(sum 1 2)")
        self.tell("P", "word 6 8 by P Q", 7)
        self.tell("(sum P 1)", "word 7 10 by P Q", 3)
        self.tell("Q", "word 3 5 by Q", 1)
        self.tell("(pair Q P)", "word [3 6] 12 by P Q", 3)
        self.tell("P", "word 6 8 by P Q", 0)

    def test_knots_of_each_term_are_kept_by_themselves(self):
        self.house()
        # ?.1 of both has the same sense; each term has its own.
        self.tell("(let x (sum 1 2) (sum x 0))", "word 3 8", 7)
        self.tell("(let x (sum 1 2) (less x 0))", "word 3 8", 7)
        self.tell("(let x (sum 1 2) (sum x 0))", "word 3 8", 0)
        self.tell("(let x (sum 1 2) (less x 0))", "word 3 8", 0)

    def test_rewritten_to_another_number(self):
        self.house(P="(sum Q (times R 2))", Q="1", R="3")
        # ? 1; P: sum, Q, times, R, 2; Q 1; R 1.
        self.tell("P", "word 7 9 by P Q R", 8)
        self.write("R", "4")
        # R 1; P goes on behind R: 2.
        self.tell("P", "word 9 9 by P Q R", 2)
        self.write("Q", "5")
        # Q 1; P goes on behind Q: times, R, 2.
        self.tell("P", "word 13 9 by P Q R", 4)
        self.write("P", "(sum Q R)")
        # P from its beginning, 3; ? takes what P comes to without a step.
        self.tell("P", "word 9 7 by P Q R", 3)

    def test_rewritten_to_the_same_number_by_another_term(self):
        self.house(P="(sum Q (times Q 2))", Q="4")
        self.tell("P", "word 12 8 by P Q", 7)
        self.write("Q", "(sum 2 2)")
        self.tell("P", "word 12 10 by P Q", 3)
        self.write("Q", "(less 7 3)")
        self.tell("P", "word 12 10 by P Q", 3)

    def test_rewritten_to_the_very_term(self):
        self.house(P="(sum Q 1)", Q="(sum 2 2)")
        self.tell("P", "word 5 8 by P Q", 7)
        self.write("Q", "(sum 2 2)")
        self.tell("P", "word 5 8 by P Q", 0)
        self.write("Q", "9")
        self.write("Q", "(sum 2 2)")
        self.tell("P", "word 5 8 by P Q", 0)
        self.write("Q", "9")
        self.back()
        self.tell("P", "word 5 8 by P Q", 0)

    def test_struck_and_written_again(self):
        self.house(P="(sum Q (times 1 1))", Q="(sum 2 2)")
        self.tell("P", "word 5 10 by P Q", 9)
        self.strike("Q")
        self.write("Q", "(sum 2 2)")
        self.tell("P", "word 5 10 by P Q", 0)

    def test_struck_and_asked_between(self):
        self.house(P="(sum Q (times 1 1))", Q="(sum 2 2)")
        self.tell("P", "word 5 10 by P Q", 9)
        self.strike("Q")
        self.tell("P", "waits Q 4 by P", 0)
        self.tell("P", "waits Q 4 by P", 0)
        self.write("Q", "(sum 2 2)")
        # Q's walk serves; P goes on behind Q: times, 1, 1.
        self.tell("P", "word 5 10 by P Q", 3)

    def test_asked_ahead_of_the_writing(self):
        self.house()
        self.tell("P", "waits P 2", 1)
        self.write("P", "(sum Q 1)")
        self.tell("P", "waits Q 4 by P", 2)
        self.write("Q", "4")
        self.tell("P", "word 5 6 by P Q", 2)

    def test_another_branch(self):
        self.house(P="(if C (sum A 1) (sum B 2))", A="(sum 1 1)", B="(sum 2 2)", C="1")
        # ? 1; if, C, sum, A, 1; C 1; A 3.
        self.tell("P", "word 3 11 by A C P", 10)
        self.write("C", "0")
        # C 1; sum, B, 2; B 3.
        self.tell("P", "word 6 11 by B C P", 7)
        self.write("A", "5")
        self.tell("P", "word 6 11 by B C P", 0)
        self.write("C", "1")
        # C 1; sum, A, 1; A 1.
        self.tell("P", "word 6 9 by A C P", 5)
        self.write("C", "0")
        # C 1; sum, B, 2; B's walk serves.
        self.tell("P", "word 6 11 by B C P", 4)
        self.write("C", "7")
        self.tell("P", "word 6 9 by A C P", 4)
        self.write("C", "8")
        # 8 is another number than 7, so all behind C is done again.
        self.tell("P", "word 6 9 by A C P", 4)

    def test_a_made_knot_that_serves_again(self):
        self.house(P="(sum Q (first (pair (times R 2) 0)))", Q="1", R="(sum 1 1)")
        # ? 1; sum, Q, first, pair; Q 1; P.1: times, R, 2; R 3.
        self.tell("P", "word 5 13 by P Q R", 12)
        self.write("Q", "2")
        # Q 1; first and pair make P.1 with the same sense.
        self.tell("P", "word 6 13 by P Q R", 3)
        self.write("R", "5")
        # R 1; P.1 goes on behind R: 1; P has no step behind P.1.
        self.tell("P", "word 12 11 by P Q R", 2)

    def test_a_made_knot_serves_where_its_maker_is_another(self):
        self.house(P="(first (pair (times R 2) 0))", R="(sum 1 1)")
        # ? 1; first, pair; P.1: 3; R 3.
        self.tell("P", "word 4 10 by P R", 9)
        self.write("P", "(let x (times R 2) (sum x x))")
        # let, sum, x, x; P.1 has the same sense.
        self.tell("P", "word 8 12 by P R", 4)
        self.write("P", "7")
        self.tell("P", "word 7 3 by P", 1)
        self.write("P", "(sum (first (pair (times R 2) 0)) 1)")
        self.tell("P", "word 5 12 by P R", 4)

    def test_a_made_knot_of_another_sense(self):
        self.house(P="(call Q 7)", Q="(def x (first (pair (sum x 1) 0)))")
        # ? 1; call, Q, first, pair; Q 1; P.2: sum, x, 1; P.1 1.
        self.tell("P", "word 8 11 by P Q", 10)
        self.write("Q", "(def x (first (pair (sum x 2) 0)))")
        # Q 1; first, pair; P.2 anew: 3; P.1 serves.
        self.tell("P", "word 9 11 by P Q", 6)
        self.write("Q", "(def y (first (pair (sum y 2) 0)))")
        self.tell("P", "word 9 11 by P Q", 6)

    def test_a_made_knot_with_other_names(self):
        self.house(P="(let a 3 (let b 4 (if C (let x a (times x 2)) (let x b (times x 2)))))", C="1")
        # ? 1; let, let, if, C, let, times, x, 2; C 1; P.3, a: 1; P.1 1.
        self.tell("P", "word 6 13 by C P", 12)
        self.write("C", "0")
        # C 1; let, times, x, 2; P.3 is b now: 1; P.2 1.
        self.tell("P", "word 8 13 by C P", 7)
        self.write("C", "1")
        # C 1; let, times, x, 2; P.3 is a again, but b was its last walk: 1; P.1 serves.
        self.tell("P", "word 6 13 by C P", 6)

    def test_a_made_knot_of_the_same_text_whose_name_stands_for_another(self):
        behind = "(let y x (times y 2))"
        self.house(P=f"(let a 3 (let b 4 (if C (let x a {behind}) (let x b {behind}))))", C="1")
        # ? 1; let, let, if, C, let, let, times, y, 2; C 1; P.4 1; P.3 1; P.1 1.
        self.tell("P", "word 6 15 by C P", 14)
        self.write("C", "0")
        # C 1; let, let, times, y, 2; P.4 is x for P.3 as before, so it is gone over; P.3 is b now: 1; P.2 1.
        self.tell("P", "word 8 15 by C P", 8)

    def test_a_made_knot_of_the_same_text_whose_name_stands_for_another_parts_knot(self):
        body = "(def x (first (pair (times x k) 0)))"
        self.house(P="(call (if C F G) 7)", F=f"(let k 5 {body})", G=f"(let k 6 {body})", C="1")
        # ? 1; call, if, C, F, first, pair; C 1; F 2; P.2: times, x, k; P.1 1; F.1 1.
        self.tell("P", "word 35 16 by C F P", 15)
        self.write("C", "0")
        # C 1; G, first, pair; G 2; P.2 is of G.1 now: 3; G.1 1; P.1 serves.
        self.tell("P", "word 42 16 by C G P", 10)
        self.tell("P", "word 42 16 by C G P", 0)
        self.write("C", "1")
        # C 1; F, first, pair; P.2 is of F.1 again, but that of G.1 was its last walk: 3.
        self.tell("P", "word 35 16 by C F P", 7)

    def test_heads_are_the_same_by_names_of_knots(self):
        self.house(P="(first Q)", Q="(pair (sum R 1) 2)", R="3")
        # ? 1; first, Q; Q 1; Q.1: 3; R 1.
        self.tell("P", "word 4 9 by P Q R", 8)
        self.write("Q", "(pair (sum R 1) 5)")
        # Q comes to the pair of the same knots, and Q.1 has the same sense.
        self.tell("P", "word 4 9 by P Q R", 1)
        self.write("Q", "(pair (sum R 2) 5)")
        # Q 1; the same pair; Q.1 has another sense: 3.
        self.tell("P", "word 5 9 by P Q R", 4)
        self.write("Q", "(let x 9 (pair (sum R 2) 5))")
        # Q 2; the pair is Q.2 and Q.3 now, Q.2 has no walk: 3; P has no step behind Q.
        self.tell("P", "word 5 10 by P Q R", 5)

    def test_defs_are_the_same_where_alike(self):
        self.house(P="(sum (call Q 2) 1)", Q="(def x (times x 2))", R="(def x (times x 2))")
        # ? 1; sum, call, Q, times, x, 2, 1; Q 1; P.1 1.
        self.tell("P", "word 5 11 by P Q", 10)
        self.write("Q", "R")
        # Q 1; R 1; the same def.
        self.tell("P", "word 5 12 by P Q R", 2)
        self.write("Q", "(def y (times y 2))")
        # Q 1; times, y, 2, 1; P.1 serves.
        self.tell("P", "word 5 11 by P Q", 5)

    def test_rings_serve_whoever_is_asked(self):
        self.house(P="(sum Q 1)", Q="(sum P (times 1 1))", R="(times 2 Q)")
        self.tell("P", "ring P Q 6 by P Q", 5)
        self.tell("P", "ring P Q 6 by P Q", 0)
        self.tell("Q", "ring P Q 6 by P Q", 1)
        self.tell("R", "ring P Q 9 by P Q R", 4)
        self.write("P", "3")
        # P 1; Q goes on behind P: 3.
        self.tell("Q", "word 4 8 by P Q", 4)
        # R has no step behind Q.
        self.tell("R", "word 8 11 by P Q R", 0)
        self.back()
        # P anew: sum, Q, and then it is at its end by the ring; Q had come to 3 by P, so that is found otherwise.
        self.tell("Q", "ring P Q 6 by P Q", 2)
        self.tell("P", "ring P Q 6 by P Q", 0)

    def test_faults_end_where_they_came(self):
        self.house(P="(sum (sum Q 1) (times 2 3))", Q="(first R)", R="4")
        # ? 1; sum, sum, Q; first, R; R 1.
        self.tell("P", "fault pair Q 8 by P Q R", 7)
        self.write("R", "(pair 5 6)")
        # R 1; R.1 1; P goes on behind Q: 1, times, 2, 3.
        self.tell("P", "word 12 13 by P Q R", 6)
        self.write("R", "(def x x)")
        self.tell("P", "fault pair Q 8 by P Q R", 1)

    def test_what_is_told_again_at_the_bottom(self):
        self.house(P="(pair Q (pair R 1))", Q="2", R="3")
        # ? 1; P 1; P.1 1; Q 1; P.2 1; P.2.1 1; R 1; P.2.2 1.
        self.tell("P", "word [2 [3 1]] 13 by P Q R", 8)
        self.write("R", "4")
        self.tell("P", "word [2 [4 1]] 13 by P Q R", 1)
        self.strike("Q")
        self.tell("P", "waits Q 5 by P", 0)
        self.write("Q", "9")
        self.tell("P", "word [9 [4 1]] 13 by P Q R", 1)

    def test_back_leaves_what_is_kept(self):
        self.house(P="(sum Q (times 1 1))", Q="(sum 2 2)")
        self.tell("P", "word 5 10 by P Q", 9)
        self.write("Q", "7")
        self.tell("P", "word 8 8 by P Q", 4)
        done = self.stands.done()
        self.back()
        self.assertEqual(self.stands.done(), done)
        # Q's last walk is that of 7: Q anew, 3, and P goes on behind it, 3.
        self.tell("P", "word 5 10 by P Q", 6)
        self.write("Q", "7")
        self.back()
        self.tell("P", "word 5 10 by P Q", 0)

    def test_refusals_lacks_and_wants_change_nothing(self):
        self.house(P="(sum Q (times 1 1))", R="(sum 2 2)")
        self.tell("P", "waits Q 4 by P", 3)
        house = self.stands
        loose = Term("(sum x 1)")
        for error, deed in (
            (NoName, lambda: house.write("p", Term("1"))), (Loose, lambda: house.write("P", loose)),
            (Written, lambda: house.write("P", Term("1"), new=True)), (NoPart, lambda: house.strike("Q")),
            (Bare, house.back), (Loose, lambda: house.tell(loose)), (Loose, lambda: lack(house, loose)),
            (NoLack, lambda: lack(house, Term("R"))),
        ):
            with self.assertRaises(error):
                deed()
        lack(house, Term("P"))
        lack(house, Term("(pair R P)"))
        self.assertEqual(wanted(house, [Term("P"), Term("R"), Term("(sum R P)")]), [("Q", 2)])
        self.assertEqual(house.done(), 3)
        self.tell("P", "waits Q 4 by P", 0)
        self.tell("R", "word 4 5 by R", 4)
        full = House([(f"P{chr(65 + at // 26)}{chr(65 + at % 26)}", Term("(sum 1 2)")) for at in range(60)])
        full.tell(Term("PAA"))
        with self.assertRaises(Full):
            full.write("Q", Term("1"))
        full.tell(Term("PAA"))
        self.assertEqual(full.done(), 4)

    def test_twins_keep_by_themselves(self):
        self.house(P="(sum Q (times 1 1))", Q="4", R="(pair P (pair 1 2))")
        self.tell("P", "word 5 8 by P Q", 7)
        twin = self.stands.twin()
        self.assertEqual(twin.done(), 7)
        twin.tell(Term("P"))
        self.assertEqual(twin.done(), 7)
        twin.write("Q", Term("5"))
        twin.tell(Term("P"))
        self.assertEqual((twin.done(), self.stands.done()), (11, 7))
        self.tell("P", "word 5 8 by P Q", 0)
        self.write("Q", "6")
        self.tell("P", "word 7 8 by P Q", 4)
        self.assertEqual(str(twin.tell(Term("P"))), "word 6 8 by P Q")
        self.assertEqual(twin.done(), 11)
        other = twin.twin()
        other.tell(Term("R"))
        self.assertEqual((other.done(), twin.done()), (11 + 6, 11))
        twin.tell(Term("R"))
        self.assertEqual((other.done(), twin.done()), (17, 17))

    def test_twins_make_knots_by_themselves(self):
        self.house(P="(if C (first (pair (sum 1 1) 0)) (first (pair (sum 2 2) 0)))", C="1")
        # ? 1; if, C, first, pair; C 1; P.1: 3.
        self.tell("P", "word 2 10 by C P", 9)
        twin = self.stands.twin()
        twin.write("C", Term("0"))
        # C 1; first, pair; P.1 has another sense there: 3.
        self.assertEqual(str(twin.tell(Term("P"))), "word 4 10 by C P")
        self.assertEqual(twin.done(), 15)
        self.tell("P", "word 2 10 by C P", 0)
        self.write("C", "0")
        self.tell("P", "word 4 10 by C P", 6)
        self.assertEqual(str(twin.tell(Term("P"))), "word 4 10 by C P")
        twin.back()
        self.assertEqual(str(twin.tell(Term("P"))), "word 2 10 by C P")
        self.tell("P", "word 4 10 by C P", 0)

    def test_a_twin_goes_on_where_an_open_telling_left(self):
        self.house(P="(sum 1 (sum 2 (sum 3 (sum Q (times 2 2)))))", Q="4")
        self.tell("P", "open 8", 7, most=8)
        twin = self.stands.twin()
        # bottom, P, sum, 1, sum, 2, sum, 3, sum, Q, Q's step, times, 2, 2.
        self.tell("P", "word 14 14 by P Q", 6)
        self.assertEqual(str(twin.tell(Term("P"), most=9)), "open 9")
        self.assertEqual(twin.done(), 8)
        self.assertEqual(str(twin.tell(Term("P"))), "word 14 14 by P Q")
        self.assertEqual(twin.done(), 13)


class OpenTest(CountedTest):
    """What an open telling does, keeps and finds otherwise; each of its steps stands in order beside it."""

    def test_gone_on_with_by_greater_most(self):
        self.house(P="(sum 1 (sum 2 3))")
        # bottom, P, sum, 1, sum, 2, 3: of these six are steps of walks.
        self.tell("P", "open 1", 0, most=1)
        self.tell("P", "open 3", 2, most=3)
        self.tell("P", "open 3", 0, most=3)
        self.tell("P", "open 4", 1, most=4)
        self.tell("P", "open 2", 0, most=2)
        self.tell("P", "open 1", 0, most=1)
        self.tell("P", "open 6", 2, most=6)
        self.tell("P", "word 6 7 by P", 1, most=7)
        self.tell("P", "word 6 7 by P", 0)
        self.tell("P", "open 6", 0, most=6)
        self.tell("P", "word 6 7 by P", 0)

    def test_left_while_it_waits_for_another(self):
        self.house(P="(sum Q (times 2 2))", Q="(sum (sum 1 1) 1)")
        # bottom, P, sum, Q, sum, sum, 1, 1, 1, times, 2, 2.
        self.tell("P", "open 7", 6, most=7)
        self.tell("Q", "word 3 7 by Q", 3)
        self.tell("P", "word 7 12 by P Q", 3)

    def test_left_and_rewritten(self):
        self.house(P="(sum Q (sum R 1))", Q="(sum 1 1)", R="(sum 2 2)")
        # bottom, P, sum, Q, sum, 1, 1, sum, R, sum, 2, 2, 1.
        self.tell("P", "open 11", 10, most=11)
        self.write("Q", "2")
        # Q 1, the same number; then R's last step, and P's 1.
        self.tell("P", "word 7 11 by P Q R", 3)
        self.write("Q", "3")
        self.tell("P", "word 8 11 by P Q R", 4)

    def test_left_in_bottoms(self):
        self.house(P="(pair Q Q)", Q="(pair 1 1)")
        # bottom, P, pair, bottom, Q, pair, bottom, 1, bottom, 1, bottom, Q, bottom, bottom.
        for most, steps in ((3, 2), (4, 0), (6, 2), (7, 0), (8, 1), (9, 0), (10, 1), (11, 0), (12, 1), (13, 0)):
            self.tell("P", f"open {most}", steps, most)
        self.tell("P", "word [[1 1] [1 1]] 14 by P Q", 0, most=14)

    def test_another_number_is_found_at_once(self):
        self.house(P="(sum Q (times 2 2))", Q="1")
        # bottom, P, sum, Q, Q's step, times, 2, 2.
        self.tell("P", "word 5 8 by P Q", 7)
        self.write("Q", "3")
        # Q comes to 3 by the fifth step: so what P did behind is forgotten, though no step of it is done.
        self.tell("P", "open 5", 1, most=5)
        self.write("Q", "1")
        self.tell("P", "word 5 8 by P Q", 4)

    def test_another_sense_is_found_at_once(self):
        self.house(P="(sum Q (times 2 2))", Q="1")
        self.tell("P", "word 5 8 by P Q", 7)
        self.write("Q", "3")
        # The fourth step needs Q, whose sense is another one: its last walk is forgotten, but P's isn't.
        self.tell("P", "open 4", 0, most=4)
        self.write("Q", "1")
        self.tell("P", "word 5 8 by P Q", 1)

    def test_what_is_not_come_to_is_not_found(self):
        self.house(P="(sum Q (times 2 2))", Q="1")
        self.tell("P", "word 5 8 by P Q", 7)
        self.write("Q", "3")
        self.tell("P", "open 3", 0, most=3)
        self.tell("P", "open 2", 0, most=2)
        self.write("Q", "1")
        self.tell("P", "word 5 8 by P Q", 0)

    def test_what_is_struck_is_found_at_once(self):
        self.house(P="(sum (sum 0 Q) (times 2 2))", Q="1", R="(sum P 1)")
        # bottom, R, sum, P, sum, sum, 0, Q, Q's step, times, 2, 2, 1.
        self.tell("R", "word 6 13 by P Q R", 12)
        self.strike("Q")
        # P waits by the eighth step, and R with it: the telling isn't open.
        self.tell("R", "waits Q 8 by P R", 0, most=8)
        self.write("Q", "1")
        # times, 2, 2 of P, and 1 of R.
        self.tell("R", "word 6 13 by P Q R", 4)
        self.strike("Q")
        self.tell("R", "open 7", 0, most=7)
        self.write("Q", "1")
        self.tell("R", "word 6 13 by P Q R", 0)

    def test_other_branches_are_found_at_once(self):
        self.house(P="(if C (first (pair (sum 1 1) 0)) (first (pair (sum 2 2) 0)))", C="1")
        # bottom, P, if, C, C's step, first, pair, sum, 1, 1.
        self.tell("P", "word 2 10 by C P", 9)
        self.write("C", "0")
        # C's step; P is behind C, no step done there; P.1 isn't come to.
        self.tell("P", "open 5", 1, most=5)
        self.write("C", "1")
        # C's step, first, pair; P.1's last walk serves.
        self.tell("P", "word 2 10 by C P", 3)
        self.write("C", "0")
        # C's step, first, pair; P.1 has another sense.
        self.tell("P", "open 7", 3, most=7)
        self.write("C", "1")
        self.tell("P", "word 2 10 by C P", 6)

    def test_lesser_most_behind_what_was_done(self):
        self.house(P="(sum Q (sum R S))", Q="(sum 1 1)", R="(sum 2 2)", S="(sum 3 3)")
        # bottom, P, sum, Q, sum, 1, 1, sum, R, sum, 2, 2, S, sum, 3, 3.
        self.tell("P", "word 12 16 by P Q R S", 15)
        for most in range(15, 0, -1):
            self.tell("P", f"open {most}", 0, most)
        self.tell("P", "word 12 16 by P Q R S", 0)
        self.write("S", "1")
        for most in (13, 12, 1):
            self.tell("P", f"open {most}", 0, most)
        self.tell("P", "word 7 14 by P Q R S", 1)

    def test_steps_gone_over_count_as_they_did(self):
        self.house(P="(sum Q (sum R 1))", Q="(sum 1 1)", R="5")
        # bottom, P, sum, Q, sum, 1, 1, sum, R, R's step, 1.
        self.tell("P", "word 8 11 by P Q R", 10)
        self.write("R", "(sum 2 2)")
        # Ten steps are gone over or done up to R's first.
        self.tell("P", "open 9", 0, most=9)
        self.tell("P", "open 10", 1, most=10)
        self.tell("P", "open 12", 2, most=12)
        self.tell("P", "word 7 13 by P Q R", 1, most=13)

    def test_rings_in_what_is_left(self):
        self.house(P="(sum Q 1)", Q="(sum (sum 1 1) P)")
        # bottom, P, sum, Q, sum, sum, 1, 1, P.
        self.tell("P", "open 7", 6, most=7)
        # Q goes on where it was left: 2; it needs P, which is gone over anew and needs Q.
        self.tell("Q", "ring P Q 9 by P Q", 3)
        self.tell("P", "ring P Q 9 by P Q", 0)

    def test_long_readings(self):
        self.house(G="(def n (def x (if n (call (call G (less n 1)) (sum x K)) x)))", K="2")
        text = "(call (call G 400) 5)"
        # One bottom; the others are steps of walks.
        self.tell(text, "open 2500", 2499, most=2500)
        self.tell(text, "open 4811", 2311, most=4811)
        self.tell(text, "open 4000", 0, most=4000)
        self.tell(text, "word 805 4812 by G K", 1, most=4812)
        self.tell(text, "word 805 4812 by G K", 0, most=4812)
        self.tell(text, "open 4811", 0, most=4811)
        self.write("K", "3")
        # K 1; each made knot (sum x K) has K, one step, behind x, which comes otherwise in all but the first of 400.
        self.tell(text, "word 1205 4812 by G K", 400, most=5000)
        self.write("G", "(def n (def x (if n (call (call G (less n 1)) (sum x K)) (less x 0))))")
        # G 1; ? goes on behind its first three, but its made knots, 2 + 400 * 3 + 400 * 3 steps, and K's one serve.
        self.tell(text, "open 4813", 2406, most=4813)
        self.tell(text, "word 1205 4814 by G K", 1, most=4814)
        self.tell("(sum 1 G)", "fault number ? 5 by G", 3)

    def test_without_end(self):
        self.house(W="(call (def f (call f f)) (def f (call f f)))")
        for most, steps in ((100, 99), (50, 0), (200, 100), (5000, 4800), (5000, 0), (4999, 0)):
            self.tell("W", f"open {most}", steps, most)


class ByChanceTest(unittest.TestCase):
    def test_by_the_other_way_of_keeping(self):
        chance = random.Random(16)
        kinds, told, done = [], 0, 0
        for _ in range(120):
            house, other = House(), OtherHouse()
            for name, text in chance_parts(chance, 8).items():
                house.write(name, Term(text))
                other.write(name, text)
            texts = ["A", "B"] + [chance_closed(chance, 3, chance.choice(["number", "pair"])) for _ in range(2)]
            for _ in range(25):
                name = chance.choice(sorted(KINDS))
                deed = chance.choice(["write", "write", "write", "strike", "back", "twin", "none", "none"])
                if deed == "write":
                    text = chance_part(chance, name, chance.randrange(4))
                    house.write(name, Term(text))
                    other.write(name, text)
                elif deed == "strike" and name in other.parts:
                    house.strike(name)
                    other.strike(name)
                elif deed == "back" and house.past():
                    house.back()
                    other.back()
                elif deed == "twin":
                    house = house.twin()
                for _ in range(chance.randrange(3)):
                    text, most = chance.choice(texts), chance.choice([90, 90, chance.randrange(1, 40)])
                    row = other.tell(text, most)
                    self.assertEqual(str(house.tell(Term(text), most=most)), row)
                    self.assertEqual(house.done(), other.done)
                    kinds.append(row.split()[0])
                    told += int(row.split(" by ")[0].split()[-1])
            done += house.done()
        for kind in ("word", "fault", "ring", "waits", "open"):
            self.assertGreater(kinds.count(kind), 100, kind)
        self.assertLess(done * 3, told)


if __name__ == "__main__":
    unittest.main()
