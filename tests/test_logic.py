"""What formulas say of all keys and bits: [45]."""

import random
import unittest

from anylength import logic as module
from tests.support import asked, slow_holds, slow_terms, slow_views, some_formula

possible = asked(module.possible)
against = asked(module.against)
negated = asked(module.negated)

KEYS = ("x0", "k0", "k1", "W0")
BITS = ("m0", "p0", "U1")
ALWAYS = ((),)


class Search(unittest.TestCase):
    def check_view(self, view, terms):
        """A view tells exactly the terms, each once, keys for keys and bits for bits."""
        self.assertEqual(sorted(term for term, _ in view), sorted(terms))
        for term, value in view:
            self.assertIs(type(value), int if term in KEYS else bool)
            self.assertGreaterEqual(value, 0)

    def check_possible(self, formula):
        terms = slow_terms(formula)
        found = possible(formula)
        some = any(slow_holds(formula, told) for told in slow_views(terms))
        self.assertEqual(found is not None, some)
        if found is not None:
            self.check_view(found, terms)
            self.assertTrue(slow_holds(formula, dict(found)))

    def check_against(self, first, second):
        terms = slow_terms(first) | slow_terms(second)
        found = against(first, second)
        some = any(
            slow_holds(first, told) and not slow_holds(second, told) for told in slow_views(terms)
        )
        self.assertEqual(found is not None, some)
        if found is not None:
            self.check_view(found, terms)
            self.assertTrue(slow_holds(first, dict(found)))
            self.assertFalse(slow_holds(second, dict(found)))

    def check_negated(self, formula):
        found = negated(formula)
        self.assertLessEqual(slow_terms(found), slow_terms(formula))
        for told in slow_views(slow_terms(formula)):
            self.assertNotEqual(slow_holds(found, told), slow_holds(formula, told))
        return found


class Possible(Search):
    def test_the_shortest_formulas(self):
        self.assertIsNone(possible(()))
        self.assertEqual(possible(ALWAYS), ())

    def test_formulas_that_never_hold(self):
        for case in (
            (("<", "k0", "k0"),),
            (("<", "k0", 0),),
            (("!=", 0, 0),),
            (("is", "m0", True), ("is", "m0", False)),
            (("<", "k0", "k1"), ("<", "k1", "x0"), ("<", "x0", "k0")),
            (("<", "k0", "k1"), ("<=", "k1", 0)),
            (("<=", "k0", "k1"), ("<=", "k1", "k0"), ("!=", "k0", "k1")),
        ):
            with self.subTest(case=case):
                self.assertIsNone(possible((case,)))
                self.assertIsNone(possible((case, case)))

    def test_formulas_that_hold_somewhere(self):
        for formula in (
            ((("<", 0, "k0"), ("<", "k0", "k1"), ("<", "k1", "x0")),),
            ((("=", "k0", 0), ("is", "m0", False)),),
            ((("<", "k0", 0),), (("is", "U1", True),)),
            ((("<", "k0", 0), ("is", "p0", True)), ()),
        ):
            with self.subTest(formula=formula):
                self.check_possible(formula)
                self.assertIsNotNone(possible(formula))

    def test_against_a_search(self):
        chance = random.Random(45)
        for _ in range(150):
            formula = some_formula(chance, KEYS[:3], BITS[:2])
            with self.subTest(formula=formula):
                self.check_possible(formula)

    def test_four_keys_and_three_bits(self):
        line = (("<", 0, "x0"), ("<", "x0", "k0"), ("<", "k0", "k1"))
        last = (("<", "k1", "W0"), ("is", "m0", True), ("is", "p0", False))
        self.check_possible((line, last, (("is", "U1", True),)))


class Against(Search):
    def test_the_example_of_the_document(self):
        less, above = ((("<", "x0", "k0"),),), ((("!=", "k0", 0),),)
        self.assertIsNone(against(less, above))
        view = dict(against(above, less))
        self.assertEqual(set(view), {"x0", "k0"})
        self.assertTrue(0 != view["k0"] <= view["x0"])

    def test_the_shortest_formulas(self):
        self.assertIsNone(against((), ()))
        self.assertIsNone(against((), ALWAYS))
        self.assertIsNone(against(ALWAYS, ALWAYS))
        self.assertEqual(against(ALWAYS, ()), ())

    def test_a_formula_against_itself(self):
        chance = random.Random(1)
        for _ in range(60):
            formula = some_formula(chance, KEYS, BITS)
            with self.subTest(formula=formula):
                self.assertIsNone(against(formula, formula))

    def test_terms_of_one_formula_alone_are_told(self):
        first, second = ((("is", "m0", True),),), ((("<", "k0", "k1"),),)
        self.check_against(first, second)
        self.check_against(second, first)

    def test_what_always_holds_is_implied(self):
        whole = ((("<", "k0", "k1"),), (("<=", "k1", "k0"),))
        self.assertIsNone(against(ALWAYS, whole))
        self.assertIsNone(against(ALWAYS, ((("is", "m0", True),), (("is", "m0", False),))))
        self.assertIsNone(against(ALWAYS, ((("<=", 0, "k0"),),)))
        self.assertIsNotNone(against(ALWAYS, ((("<", 0, "k0"),),)))

    def test_orders_of_four_keys(self):
        line = ((("<", "x0", "k0"), ("<", "k0", "k1"), ("<", "k1", "W0")),)
        self.assertIsNone(against(line, ((("<", "x0", "W0"), ("!=", "W0", 0)),)))
        self.check_against(line, ((("<", "x0", "W0"), ("!=", "x0", 0)),))

    def test_against_a_search(self):
        chance = random.Random(451)
        for _ in range(150):
            first = some_formula(chance, KEYS[:3], BITS[:2])
            second = some_formula(chance, KEYS[1:4], BITS[1:])
            if chance.random() < 0.5:
                second = first[:1] + second[:2]
            with self.subTest(first=first, second=second):
                self.check_against(first, second)


class Negated(Search):
    def test_the_shortest_formulas(self):
        self.check_negated(())
        self.check_negated(ALWAYS)
        self.check_negated(negated(()))
        self.check_negated(negated(ALWAYS))

    def test_every_word(self):
        for op in ("<", "<=", "=", "!="):
            for pair in (("k0", "k1"), ("k0", 0), (0, "k1"), ("k0", "k0"), (0, 0)):
                with self.subTest(op=op, pair=pair):
                    self.check_negated((((op, *pair),),))
        self.check_negated(((("is", "m0", True),),))
        self.check_negated(((("is", "m0", False),),))

    def test_against_a_search_also_twice(self):
        chance = random.Random(452)
        twice = 0
        for _ in range(200):
            formula = some_formula(chance, KEYS[:3], BITS[:2])
            with self.subTest(formula=formula):
                found = self.check_negated(formula)
                if len(found) <= 3 and all(len(case) <= 3 for case in found):
                    self.check_negated(found)
                    twice += 1
                self.assertIsNone(against(formula, negated(negated(formula))))
                self.assertIsNone(against(negated(negated(formula)), formula))
        self.assertGreater(twice, 50)

    def test_three_cases_of_three_literals(self):
        chance = random.Random(453)
        for _ in range(20):
            formula = ()
            while [len(case) for case in formula] != [3, 3, 3]:
                formula = some_formula(chance, KEYS[:3], BITS)
            with self.subTest(formula=formula):
                self.check_negated(formula)

    def test_many_different_terms(self):
        names = iter(f"{letter}{digit}" for letter in "xykwKW" for digit in range(3))
        formula = tuple(tuple(("<", next(names), next(names)) for _ in "abc") for _ in "abc")
        found = negated(formula)
        self.assertEqual(slow_terms(found), slow_terms(formula))
        chance = random.Random(454)
        for _ in range(2000):
            told = {term: chance.randrange(4) for term in slow_terms(formula)}
            self.assertNotEqual(slow_holds(found, told), slow_holds(formula, told))


if __name__ == "__main__":
    unittest.main()
