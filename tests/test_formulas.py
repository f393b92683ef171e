"""Terms and formulas: [41] to [44], and [25] where it speaks of formulas."""

import random
import unittest
from itertools import permutations

from anylength import formulas as module
from tests.support import asked, slow_holds, slow_terms, slow_views, some_formula

holds = asked(module.holds)
first_case = asked(module.first_case)
terms_of = asked(module.terms_of)
needs = asked(module.needs)

EVERY_KEY_TERM = tuple(f"{letter}{digit}" for letter in "xynrkwKWv" for digit in range(3))
EVERY_BIT_TERM = tuple(f"{letter}{digit}" for letter in "pqgfmuMU" for digit in range(3))


class Holds(unittest.TestCase):
    def check(self, literal, view, wanted):
        with self.subTest(literal=literal, view=view):
            self.assertIs(holds(((literal,),), view), wanted)
            self.assertEqual(first_case(((literal,),), view), 0 if wanted else None)

    def test_the_example_of_the_document(self):
        formula = ((("is", "m0", False),), (("<=", "K0", "k0"),))
        view = (("k0", 4), ("K0", 2), ("m0", True))
        self.assertIs(holds(formula, view), True)
        self.assertEqual(first_case(formula, view), 1)

    def test_every_word_of_key_literals(self):
        wanted = {
            "<": (True, False, False),
            "<=": (True, True, False),
            "=": (False, True, False),
            "!=": (True, False, True),
        }
        for op, truths in wanted.items():
            for a, b, truth in zip((3, 3, 3), (4, 3, 2), truths):
                self.check((op, "x0", "y1"), (("x0", a), ("y1", b)), truth)

    def test_the_source_0(self):
        for key in (0, 1, 10 ** 29):
            view = (("k0", key),)
            self.check(("<", 0, "k0"), view, key > 0)
            self.check(("<", "k0", 0), view, False)
            self.check(("<=", 0, "k0"), view, True)
            self.check(("<=", "k0", 0), view, key == 0)
            self.check(("=", 0, "k0"), view, key == 0)
            self.check(("!=", "k0", 0), view, key != 0)
        self.check(("=", 0, 0), (), True)
        self.check(("<=", 0, 0), (), True)
        self.check(("<", 0, 0), (), False)
        self.check(("!=", 0, 0), (), False)

    def test_is(self):
        for bit in (True, False):
            for wanted in (True, False):
                self.check(("is", "m1", wanted), (("m1", bit),), bit == wanted)

    def test_a_term_beside_itself(self):
        self.check(("=", "k0", "k0"), (("k0", 4),), True)
        self.check(("<", "k0", "k0"), (("k0", 4),), False)

    def test_great_keys(self):
        great = 10 ** 30 - 1
        self.check(("<", "x0", "x1"), (("x0", great - 1), ("x1", great)), True)
        self.check(("=", "x0", "x1"), (("x0", great - 1), ("x1", great)), False)

    def test_the_empty_formula_and_the_empty_case(self):
        for view in ((), (("k0", 4), ("m0", True))):
            self.assertIs(holds((), view), False)
            self.assertIsNone(first_case((), view))
            self.assertIs(holds(((),), view), True)
            self.assertEqual(first_case(((),), view), 0)
        self.assertEqual(first_case(((("is", "m0", False),), ()), (("m0", True),)), 1)

    def test_all_literals_of_one_case(self):
        case = (("<", "k0", "k1"), ("<", "k1", "k2"), ("is", "m0", True))
        view = (("k0", 1), ("k1", 2), ("k2", 3), ("m0", True))
        self.assertIs(holds((case,), view), True)
        for at, pair in enumerate((("k0", 2), ("k1", 3), ("k2", 2), ("m0", False))):
            with self.subTest(pair=pair):
                self.assertIs(holds((case,), view[:at] + (pair,) + view[at + 1:]), False)

    def test_the_first_of_several_cases(self):
        cases = ((("=", "x0", 0),), (("<", "x0", "x1"),), (("!=", "x0", 0),))
        found = [first_case(cases, (("x0", key), ("x1", 5))) for key in (0, 3, 7)]
        self.assertEqual(found, [0, 1, 2])
        self.assertIsNone(first_case(cases[:2], (("x0", 7), ("x1", 5))))

    def test_terms_of_every_letter(self):
        for term in EVERY_KEY_TERM:
            self.check(("=", term, 0), ((term, 0),), True)
            self.check(("<", 0, term), ((term, 0),), False)
        for term in EVERY_BIT_TERM:
            self.check(("is", term, True), ((term, True),), True)
            self.check(("is", term, True), ((term, False),), False)

    def test_views_in_any_order_and_with_further_terms(self):
        formula = ((("<", "k0", "K0"), ("is", "u1", True)), (("=", "x0", 0),))
        view = (("k0", 1), ("K0", 2), ("u1", True), ("x0", 1), ("v0", 0))
        for pairs in permutations(view):
            self.assertEqual(first_case(formula, pairs), 0)

    def test_against_the_words_of_the_document(self):
        chance = random.Random(42)
        for _ in range(400):
            formula = some_formula(chance, ("x0", "k0", "K1"), ("m0", "U2"))
            told = chance.choice(list(slow_views({"x0", "k0", "K1", "m0", "U2"})))
            view = tuple(told.items())
            with self.subTest(formula=formula, view=view):
                self.assertIs(holds(formula, view), slow_holds(formula, told))
                cases = [at for at in range(len(formula)) if slow_holds(formula[at:at + 1], told)]
                self.assertEqual(first_case(formula, view), min(cases, default=None))

    def test_a_rising_map_changes_nothing(self):
        chance = random.Random(25)
        for _ in range(200):
            formula = some_formula(chance, ("y0", "w0", "k0"), ("q0",))
            told = chance.choice(list(slow_views({"y0", "w0", "k0", "q0"})))
            mapped = {t: v if isinstance(v, bool) else v * 7 + v * v for t, v in told.items()}
            with self.subTest(formula=formula, told=told):
                wanted = holds(formula, tuple(told.items()))
                self.assertIs(holds(formula, tuple(mapped.items())), wanted)


class Terms(unittest.TestCase):
    def test_no_terms(self):
        for formula in ((), ((),), ((("=", 0, 0),),)):
            self.assertEqual(terms_of(formula), ())
            self.assertEqual(needs(formula), ((), ()))

    def test_each_once_and_ascending(self):
        formula = (
            (("<", "k1", "k0"), ("is", "u0", True), ("<", "k0", "k1")),
            (("is", "u0", False), ("=", 0, "K0"), ("!=", "x2", 0)),
            (("is", "M1", True), ("<=", "w1", "k1")),
        )
        self.assertEqual(terms_of(formula), ("K0", "M1", "k0", "k1", "u0", "w1", "x2"))
        self.assertEqual(needs(formula), (("w1", "k0", "k1"), ("u0",)))

    def test_every_letter(self):
        for term in EVERY_KEY_TERM:
            with self.subTest(term=term):
                self.assertEqual(terms_of(((("<", 0, term),),)), (term,))
                wanted = ((term,), ()) if term[0] in "wk" else ((), ())
                self.assertEqual(needs(((("<", term, 0),),)), wanted)
        for term in EVERY_BIT_TERM:
            with self.subTest(term=term):
                self.assertEqual(terms_of(((("is", term, False),),)), (term,))
                wanted = ((), (term,)) if term[0] in "um" else ((), ())
                self.assertEqual(needs(((("is", term, False),),)), wanted)

    def test_found_ahead_of_now(self):
        keys = ((("<", "k0", "k1"), ("<", "w1", "w0")),)
        self.assertEqual(needs(keys), (("w0", "w1", "k0", "k1"), ()))
        bits = ((("is", "m1", True), ("is", "m0", True)), (("is", "u1", True), ("is", "u0", True)))
        self.assertEqual(needs(bits), ((), ("u0", "u1", "m0", "m1")))
        self.assertEqual(terms_of(bits), ("m0", "m1", "u0", "u1"))

    def test_the_second_row_is_not_needed(self):
        formula = ((("<", "K0", "W1"), ("is", "M0", True), ("is", "U1", True)),)
        self.assertEqual(terms_of(formula), ("K0", "M0", "U1", "W1"))
        self.assertEqual(needs(formula), ((), ()))

    def test_against_a_search(self):
        chance = random.Random(44)
        for _ in range(300):
            formula = some_formula(chance, ("x0", "k0", "k1", "w0", "K0"), ("m0", "u1", "q0"))
            terms = sorted(slow_terms(formula))
            keys = [t for t in terms if t[0] == "w"] + [t for t in terms if t[0] == "k"]
            bits = [t for t in terms if t[0] == "u"] + [t for t in terms if t[0] == "m"]
            with self.subTest(formula=formula):
                self.assertEqual(terms_of(formula), tuple(terms))
                self.assertEqual(needs(formula), (tuple(keys), tuple(bits)))


if __name__ == "__main__":
    unittest.main()
