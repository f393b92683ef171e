"""Contracts: [64], [100], [104], [122] and the bracket of [143]."""

import random
import unittest

from anylength import contracts as module
from anylength.clauses import keeps
from anylength.errors import BadTerm
from tests.making import (
    AFTER,
    BEFORE,
    KEY_LETTERS,
    SHAPES,
    numbers_of,
    some_contract,
    some_pair,
    with_other_terms,
)
from tests.support import asked, some_table

check_contract = asked(module.check_contract)
begins = asked(module.begins)
ends = asked(module.ends)
answer_fault = asked(module.answer_fault)
bracket = asked(module.bracket)

NOTHING = ((), ())
EVERY_LETTER = "xypqngrfkmwuKMWUv"
MARKED = ((("is", "m0", True),),)
UNMARKED = ("each", ((("is", "m0", False),),))


def read(term):
    """A literal that reads the term."""
    return ("<=", term, 0) if term[0] in KEY_LETTERS else ("is", term, True)


def formula(*terms):
    return (tuple(read(term) for term in terms),)


def contract(before=(), after=(), falls=None, takes=(2, 1), gives=(2, 1)):
    return (takes, gives, before, after, falls)


class Case(unittest.TestCase):
    def fits(self, told, shape=(2, 2)):
        self.assertIsNone(check_contract(shape, told))

    def fails(self, term, told, shape=(2, 2)):
        with self.assertRaises(BadTerm) as caught:
            module.check_contract(shape, told)
        self.assertEqual(caught.exception.term, term)

    def check(self, allowed, told, term):
        if allowed:
            self.fits(told)
        else:
            self.fails(term, told)


class Letters(Case):
    def test_every_letter_in_every_clause_of_before(self):
        for kind in ("names", "each", "some", "next"):
            for letter in EVERY_LETTER:
                term = letter + "0"
                with self.subTest(kind=kind, term=term):
                    told = contract(before=((kind, formula(term)),))
                    self.check(letter in BEFORE[kind], told, term)

    def test_every_letter_in_every_clause_of_after(self):
        for kind in ("names", "each", "some", "next", "pairs"):
            for letter in EVERY_LETTER:
                term = letter + "0"
                with self.subTest(kind=kind, term=term):
                    told = contract(after=((kind, formula(term)),))
                    self.check(letter in AFTER[kind], told, term)

    def test_every_letter_in_change_clauses(self):
        for letter in EVERY_LETTER:
            term = letter + "0"
            for many in (0, 1):
                with self.subTest(term=term, many=many):
                    told = contract(after=(("change", formula(term), many, ()),))
                    self.check(letter in "km" or (letter == "v" and many), told, term)
                    share = (1, formula(term))
                    for shares in ((share,), ((2, ((),)), share)):
                        told = contract(after=(("change", (), many, shares),))
                        self.check(letter in "xypq" or (letter == "v" and many), told, term)

    def test_every_letter_in_falls(self):
        for letter in EVERY_LETTER:
            with self.subTest(letter=letter):
                told = contract(falls=(formula(letter + "0"), 1))
                self.check(letter in "km", told, letter + "0")

    def test_sources_that_are_no_terms(self):
        plain = ((("<", 0, 0), ("=", 0, "k0"), ("is", "m0", True)), ())
        self.fits(contract((("each", plain),), (("change", plain, 0, ((1, ()),)),), (plain, 2)))

    def test_nothing_told(self):
        self.fits(((0, 0), (0, 0), (), (), None), (1, 0))


class Digits(Case):
    def test_bounds(self):
        # The letters whose digits hang on the same number, and what tells this number.
        for letters, place in (("x", "keys taken"), ("p", "bits taken"), ("y", "keys given"),
                               ("q", "bits given"), ("kwKW", "fields"), ("muMU", "marks")):
            for letter in letters:
                for number in (0, 1, 2):
                    if number == 2 and place.startswith("bits"):
                        continue
                    told = {"keys taken": 0, "bits taken": 0, "keys given": 0, "bits given": 0,
                            "fields": 1, "marks": 1, place: number}
                    self.check_bound(letter, number, told)

    def check_bound(self, letter, number, told):
        shape = (told["fields"], told["marks"])
        takes = (told["keys taken"], told["bits taken"])
        gives = (told["keys given"], told["bits given"])
        for digit in range(10):
            term = f"{letter}{digit}"
            one = contract(after=(("next", formula(term)),), takes=takes, gives=gives)
            with self.subTest(term=term, told=told):
                if digit < number:
                    self.fits(one, shape)
                else:
                    self.fails(term, one, shape)

    def test_values(self):
        for many in (0, 1):
            for digit in range(10):
                term = f"v{digit}"
                told = contract(after=(("change", formula(term), many, ()),))
                self.check(digit < many, told, term)
                told = contract(after=(("change", (), many, ((-3, formula(term)),)),))
                self.check(digit < many, told, term)

    def test_values_of_another_clause(self):
        told = contract(after=(("change", (), 1, ()), ("change", formula("v0"), 0, ())))
        self.fails("v0", told)

    def test_before_and_falls(self):
        for shape, good, bad in (((1, 2), ("k0", "m1"), ("k1", "m2")),
                                 ((2, 1), ("k1", "m0"), ("k2", "m1"))):
            for term in good:
                self.fits(contract(before=(("some", formula(term)),)), shape)
                self.fits(contract(falls=(formula(term), 3)), shape)
            for term in bad:
                self.fails(term, contract(before=(("some", formula(term)),)), shape)
                self.fails(term, contract(falls=(formula(term), 3)), shape)
        self.fits(contract(before=(("names", formula("x0", "p0")),), takes=(1, 1)))
        self.fails("x1", contract(before=(("names", formula("x0", "x1")),), takes=(1, 1)))
        self.fails("p0", contract(before=(("names", formula("x0", "p0")),), takes=(1, 0)))


class LeftToRight(Case):
    def test_before_then_after_then_falls(self):
        bad = {"before": (("names", formula("y0")),), "after": (("each", formula("K0")),),
               "falls": (formula("w0"), 1)}
        self.fails("y0", contract(**bad))
        self.fails("K0", contract(after=bad["after"], falls=bad["falls"]))
        self.fails("w0", contract(falls=bad["falls"]))

    def test_clauses_cases_and_literals_in_order(self):
        good, bad = ("names", formula("x0")), ("names", formula("k0"))
        self.fails("k0", contract(before=(bad, ("names", formula("k1")))))
        self.fails("k0", contract(before=(good, bad)))
        three = (good, good, bad)
        self.fails("k0", contract(after=three))
        self.fails("m1", contract(after=(("names", ((), (read("x0"), read("m1")), (read("k0"),))),)))
        self.fails("m0", contract(after=(("names", ((read("m0"), read("k0")),)),)))

    def test_both_sources_of_a_literal(self):
        self.fails("k0", contract(after=(("names", ((("<", "k0", "k1"),),)),)))
        self.fails("k1", contract(after=(("names", ((("<", "x0", "k1"),),)),)))
        self.fails("k1", contract(after=(("names", ((("<", 0, "k1"),),)),)))

    def test_of_a_change_clause_the_formula_then_its_shares(self):
        shares = ((1, formula("k0")), (2, formula("m0")))
        self.fails("x0", contract(after=(("change", formula("x0"), 1, shares),)))
        self.fails("k0", contract(after=(("change", formula("k0"), 1, shares),)))
        self.fails("m0", contract(after=(("change", formula("k0"), 1, shares[1:]),)))
        after = (("change", (), 1, shares), ("names", formula("m1")))
        self.fails("k0", contract(after=after))

    def test_contracts_that_fit(self):
        chance = random.Random(104)
        for _ in range(300):
            shape = chance.choice(SHAPES)
            self.fits(some_contract(chance, shape), shape)

    def test_one_term_changed_in_contracts_that_fit(self):
        chance = random.Random(1040)
        for _ in range(500):
            shape = chance.choice(SHAPES)
            told = some_contract(chance, shape)
            wrong = with_other_terms(chance, told, 0.2, 3)
            bad = slow_bad_term(shape, wrong)
            with self.subTest(shape=shape, wrong=wrong):
                if bad is None:
                    self.fits(wrong, shape)
                else:
                    self.fails(bad, wrong, shape)


def slow_bad_term(shape, told):
    """The first term that may not stand where it stands, by a list of all of them."""
    takes, gives, before, after, falls = told
    places = [(one[1], BEFORE[one[0]], 0) for one in before]
    for one in after:
        if one[0] == "change":
            places += [(part, "kvm", one[2]) for part in one[1:2]]
            places += [(share, "xyvpq", one[2]) for _, share in one[3]]
        else:
            places.append((one[1], AFTER[one[0]], 0))
    if falls is not None:
        places.append((falls[0], "km", 0))
    for part, letters, many in places:
        numbers = numbers_of(shape, takes, gives, {"v": many})
        good = {f"{letter}{at}" for letter in letters for at in range(numbers[letter])}
        for term in [term for case in part for one in case for term in one[1:]]:
            if isinstance(term, str) and term not in good:
                return term
    return None


class BeginsAndEnds(unittest.TestCase):
    def test_no_clauses(self):
        for table in ((), ((True,), (False,))):
            self.assertIsNone(begins(contract(takes=(0, 0)), NOTHING, table))
            self.assertIsNone(ends(contract(), NOTHING, NOTHING, table, table))

    def test_the_number_of_the_first_clause_that_is_not_kept(self):
        never, always = ("names", ()), ("names", ((),))
        for clauses, wanted in (((always,), None), ((never,), 0), ((always, never), 1),
                                ((never, never), 0), ((always, always), None)):
            self.assertEqual(begins(contract(before=clauses), NOTHING, ()), wanted)
            self.assertEqual(ends(contract(after=clauses), NOTHING, NOTHING, (), ()), wanted)
        three = contract(after=(always, always, never))
        self.assertEqual(ends(three, NOTHING, NOTHING, (), ()), 2)

    def test_before_is_read_with_givens_and_the_table(self):
        told = contract(before=(("names", formula("x0", "p0")), ("some", ((("=", "k0", "x1"),),))))
        self.assertIsNone(begins(told, ((0, 4), (True,)), ((4,),)))
        self.assertEqual(begins(told, ((1, 4), (True,)), ((4,),)), 0)
        self.assertEqual(begins(told, ((0, 4), (False,)), ((4,),)), 0)
        self.assertEqual(begins(told, ((0, 4), (True,)), ((5,),)), 1)
        self.assertEqual(begins(told, ((0, 4), (True,)), ()), 1)

    def test_after_is_not_asked_by_begins_nor_before_by_ends(self):
        never = (("names", ()),)
        self.assertIsNone(begins(contract(after=never), NOTHING, ()))
        self.assertIsNone(ends(contract(before=never), NOTHING, NOTHING, (), ()))

    def test_after_is_read_with_all(self):
        shares = ((1, ((("=", "v0", "y0"),),)), (-1, ((("=", "v0", "x0"),),)))
        often = ("change", ((("=", "k0", "v0"),),), 1, shares)
        rising = ("each", ((("<=", "w0", "k0"),),))
        told = contract(after=(rising, ("pairs", ((("<", "k0", "K0"),),)), often))
        givens, results, found, now = ((1, 0), ()), ((3, 0), ()), ((1,), (2,)), ((2,), (3,))
        self.assertIsNone(ends(told, givens, results, found, now))
        self.assertEqual(ends(told, ((2, 0), ()), results, found, now), 2)
        self.assertEqual(ends(told, givens, ((4, 0), ()), found, now), 2)
        self.assertEqual(ends(told, givens, results, now, found), 0)
        self.assertEqual(ends(told, givens, results, found, ((3,), (2,))), 1)

    def test_against_the_words_of_the_document(self):
        chance = random.Random(100)
        for _ in range(300):
            shape = chance.choice(SHAPES)
            told = some_contract(chance, shape)
            givens, results = some_pair(chance, told[0]), some_pair(chance, told[1])
            found = some_table(chance, shape, chance.randrange(4))
            now = some_table(chance, shape, len(found))
            with self.subTest(told=told, found=found, now=now):
                broken = [c for c, one in enumerate(told[2])
                          if not keeps(one, givens, NOTHING, found, found)]
                self.assertEqual(begins(told, givens, found), broken[0] if broken else None)
                broken = [c for c, one in enumerate(told[3])
                          if not keeps(one, givens, results, found, now)]
                self.assertEqual(ends(told, givens, results, found, now), broken[0] if broken else None)


class AnswerFault(unittest.TestCase):
    def test_another_number_of_rows(self):
        told = contract(after=(("names", ()),), takes=(0, 0), gives=(0, 0))
        found = ((True,), (False,))
        for rows in (0, 1, 3, 4):
            answer = ((), (), ((True,),) * rows)
            self.assertEqual(answer_fault(told, NOTHING, found, answer), ("rows",))
        self.assertEqual(answer_fault(told, NOTHING, found, ((), (), found)), ("clause", 0))
        self.assertEqual(answer_fault(told, NOTHING, (), ((), (), ())), ("clause", 0))

    def test_no_clauses(self):
        told = contract(takes=(0, 0), gives=(0, 0))
        self.assertIsNone(answer_fault(told, NOTHING, ((True,),), ((), (), ((False,),))))

    def test_pairs_and_change_are_never_asked(self):
        after = (("pairs", ()), ("change", ((),), 0, ((3, ((),)),)), ("names", ((),)))
        told = contract(after=after, takes=(0, 0), gives=(0, 0))
        table = ((True,), (False,))
        self.assertIsNone(answer_fault(told, NOTHING, table, ((), (), table)))
        told = contract(after=after[:2] + (("next", ()),), takes=(0, 0), gives=(0, 0))
        self.assertEqual(answer_fault(told, NOTHING, table, ((), (), table)), ("clause", 2))

    def test_each_kind_that_is_asked(self):
        table = ((True,), (False,))
        for kind in ("names", "each", "some", "next"):
            for at in (0, 1, 2):
                after = (("names", ((),)),) * at + ((kind, ()),) + (("names", ()),) * (2 - at)
                told = contract(after=after, takes=(0, 0), gives=(0, 0))
                fault = answer_fault(told, NOTHING, table, ((), (), table))
                self.assertEqual(fault, ("clause", at))

    def test_before_is_not_asked(self):
        told = contract(before=(("names", ()),), takes=(0, 0), gives=(0, 0))
        self.assertIsNone(answer_fault(told, NOTHING, (), ((), (), ())))

    def test_what_is_read(self):
        literals = (("=", "x0", "k0"), ("=", "w0", "y1"), ("is", "p0", True), ("is", "q0", False))
        told = contract(after=(("each", (literals,)),))
        givens = ((5, 0), (True,))
        self.assertIsNone(answer_fault(told, givens, ((7,),), ((0, 7), (False,), ((5,),))))
        for given, found, answer in (
            (((6, 0), (True,)), ((7,),), ((0, 7), (False,), ((5,),))),
            (((5, 0), (False,)), ((7,),), ((0, 7), (False,), ((5,),))),
            (givens, ((8,),), ((0, 7), (False,), ((5,),))),
            (givens, ((7,),), ((0, 8), (False,), ((5,),))),
            (givens, ((7,),), ((0, 7), (True,), ((5,),))),
            (givens, ((7,),), ((0, 7), (False,), ((6,),))),
        ):
            self.assertEqual(answer_fault(told, given, found, answer), ("clause", 0))


class Bracket(unittest.TestCase):
    def test_without_change_clauses(self):
        for after in ((), (("each", MARKED), UNMARKED), (("names", MARKED),)):
            self.assertIsNone(bracket(contract(after=after), MARKED, 0))

    def test_equal_formula_and_as_many_values(self):
        told = contract(after=(("change", MARKED, 0, ()),))
        self.assertEqual(bracket(told, MARKED, 0), 0)
        self.assertIsNone(bracket(told, MARKED, 1))
        told = contract(after=(("change", MARKED, 1, ()),))
        self.assertEqual(bracket(told, MARKED, 1), 0)
        self.assertIsNone(bracket(told, MARKED, 0))

    def test_equal_as_a_tuple_not_only_in_what_it_says(self):
        one, two = ("<", "k0", "k1"), ("is", "m0", True)
        told = contract(after=(("change", ((one, two),), 0, ()),))
        self.assertEqual(bracket(told, ((one, two),), 0), 0)
        for other in (((two, one),), ((one, two), (one, two)), ((one,), (two,)),
                      ((one, two, one),), ((("!=", "k0", "k1"), two),), ()):
            self.assertIsNone(bracket(told, other, 0))

    def test_the_first_one(self):
        clauses = (("change", MARKED, 1, ()), ("change", MARKED, 0, ((1, ()),)),
                   ("change", MARKED, 0, ((2, ()),)))
        self.assertEqual(bracket(contract(after=clauses), MARKED, 0), 1)
        self.assertEqual(bracket(contract(after=clauses), MARKED, 1), 0)
        self.assertEqual(bracket(contract(after=clauses[::-1]), MARKED, 0), 0)
        self.assertEqual(bracket(contract(after=clauses[::-1]), MARKED, 1), 2)
        self.assertEqual(bracket(contract(after=(UNMARKED, *clauses)), MARKED, 0), 2)

    def test_falls_and_before_play_no_part(self):
        told = contract(before=(("each", MARKED),), falls=(MARKED, 1))
        self.assertIsNone(bracket(told, MARKED, 0))


if __name__ == "__main__":
    unittest.main()
