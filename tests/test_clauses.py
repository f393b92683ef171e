"""Clauses: [60] to [66], and [25] where it speaks of change clauses."""

import random
import unittest

from anylength import clauses as module
from tests.support import asked, slow_holds, some_formula, some_table

keeps = asked(module.keeps)
verdicts = asked(module.verdicts)
failure = asked(module.failure)
count = asked(module.count)
due = asked(module.due)

NOTHING = ((), ())
ASCENDING = ((("<=", "k0", "K0"),),)
EVERY_KEY = ((("=", "k0", "v0"),),)
MARKED = ((("is", "m0", True),),)
ALWAYS = ((),)
BETWEEN = ("change", (), 1, ((-1, ((("<", "x0", "v0"), ("<", "v0", "y0")),)),))


def named(givens, results, found=(), now=(), letters="xpyqwukm"):
    """A dict of what names and the terms of one row stand for."""
    told = {}
    for letter, values in zip(letters, (*givens, *results)):
        told.update({f"{letter}{at}": value for at, value in enumerate(values)})
    for keys, bits, row in ((letters[4], letters[5], found), (letters[6], letters[7], now)):
        fields = [value for value in row if not isinstance(value, bool)]
        told.update({f"{keys}{at}": value for at, value in enumerate(fields)})
        told.update({f"{bits}{at}": value for at, value in enumerate(row[len(fields):])})
    return told


def slow_count(formula, value, table):
    return sum(slow_holds(formula, {"v0": value, **named((), (), (), row)}) for row in table)


def slow_due(shares, givens, results, value):
    told = {"v0": value, **named(givens, results)}
    return sum(number for number, formula in shares if slow_holds(formula, told))


def slow_failure(clause, givens, results, found, now):
    """The place at which a clause fails, by the words of the document."""
    kind, formula = clause[:2]
    rows = range(len(now))

    def one(i):
        return slow_holds(formula, named(givens, results, found[i], now[i]))

    def two(i, j):
        second = named((), (), found[j], now[j], "xpyqWUKM")
        return slow_holds(formula, {**named(givens, results, found[i], now[i]), **second})

    if kind == "names":
        return None if slow_holds(formula, named(givens, results)) else ("names",)
    if kind == "each":
        return next((("row", i) for i in rows if not one(i)), None)
    if kind == "some":
        return None if any(one(i) for i in rows) else ("none",)
    if kind == "next":
        return next((("rows", i, i + 1) for i in rows[:-1] if not two(i, i + 1)), None)
    if kind == "pairs":
        return next((("rows", i, j) for j in rows for i in rows[:j] if not two(i, j)), None)
    return "value" if slow_values(clause, givens, results, found, now) else None


def slow_values(clause, givens, results, found, now):
    """The dict of the values for which a change clause fails, of small ones."""
    _, formula, many, shares = clause
    told = {}
    # All keys of the tests are less than 30, so 31 stands for all greater ones.
    for value in range(32 if many else 1):
        difference = slow_count(formula, value, now) - slow_count(formula, value, found)
        wanted = slow_due(shares, givens, results, value)
        if difference != wanted:
            told[value] = ("value", value, difference, wanted)
    return told


class Case(unittest.TestCase):
    def check(self, clause, givens, results, found, now):
        """All four functions, against the words of the document."""
        asked_for = (givens, results, found, now)
        place = failure(clause, *asked_for)
        wanted = slow_failure(clause, *asked_for)
        if wanted == "value":
            self.assertIn(place, slow_values(clause, *asked_for).values())
        else:
            self.assertEqual(place, wanted)
        self.assertIs(keeps(clause, *asked_for), wanted is None)
        truths = verdicts(clause, *asked_for)
        self.assertEqual(len(truths), len(now) + 1)
        for rows, truth in enumerate(truths):
            begun = slow_failure(clause, givens, results, found[:rows], now[:rows])
            self.assertIs(truth, begun is None)
        return place


class Kinds(Case):
    def test_tables_without_rows(self):
        for formula in ((), ALWAYS):
            for kind in ("each", "next", "pairs"):
                with self.subTest(kind=kind, formula=formula):
                    self.assertIsNone(self.check((kind, formula), NOTHING, NOTHING, (), ()))
            place = self.check(("some", formula), NOTHING, NOTHING, (), ())
            self.assertEqual(place, ("none",))
        self.assertIsNone(self.check(("names", ALWAYS), NOTHING, NOTHING, (), ()))
        self.assertEqual(self.check(("names", ()), NOTHING, NOTHING, (), ()), ("names",))

    def test_tables_with_one_row(self):
        table = ((4,),)
        for kind in ("next", "pairs"):
            self.assertIsNone(self.check((kind, ()), NOTHING, NOTHING, table, table))
        self.assertEqual(self.check(("each", ()), NOTHING, NOTHING, table, table), ("row", 0))
        self.assertEqual(self.check(("some", ()), NOTHING, NOTHING, table, table), ("none",))
        self.assertIsNone(self.check(("each", ALWAYS), NOTHING, NOTHING, table, table))
        self.assertIsNone(self.check(("some", ALWAYS), NOTHING, NOTHING, table, table))

    def test_names(self):
        formula = ((("<", "x0", "y0"), ("is", "p0", True), ("is", "q0", False)),)
        good, table = ((3,), (True,)), ((1,), (2,))
        self.assertIsNone(self.check(("names", formula), good, ((4,), (False,)), table, table))
        for results in (((3,), (False,)), ((4,), (True,))):
            place = self.check(("names", formula), good, results, table, table)
            self.assertEqual(place, ("names",))
        self.assertEqual(verdicts(("names", formula), good, ((0,), (False,)), table, table),
                         (False, False, False))

    def test_each(self):
        rows = ((1,), (3,), (9,), (2,), (8,))
        clause = ("each", ((("<=", "k0", "x1"),),))
        self.assertIsNone(self.check(clause, ((0, 9), ()), NOTHING, rows, rows))
        self.assertEqual(self.check(clause, ((0, 8), ()), NOTHING, rows, rows), ("row", 2))
        self.assertEqual(self.check(clause, ((0, 1), ()), NOTHING, rows, rows), ("row", 1))
        self.assertEqual(verdicts(clause, ((0, 8), ()), NOTHING, rows, rows),
                         (True, True, True, False, False, False))

    def test_some(self):
        rows = ((1,), (3,), (9,))
        clause = ("some", ((("=", "k0", "y0"),),))
        self.assertIsNone(self.check(clause, NOTHING, ((3,), ()), rows, rows))
        self.assertEqual(self.check(clause, NOTHING, ((4,), ()), rows, rows), ("none",))
        self.assertEqual(verdicts(clause, NOTHING, ((3,), ()), rows, rows),
                         (False, False, True, True))

    def test_next_and_pairs(self):
        rows = ((1,), (5,), (6,), (0,), (5,))
        place = self.check(("next", ASCENDING), NOTHING, NOTHING, rows, rows)
        self.assertEqual(place, ("rows", 2, 3))
        place = self.check(("pairs", ASCENDING), NOTHING, NOTHING, rows, rows)
        self.assertEqual(place, ("rows", 0, 3))
        self.assertIsNone(self.check(("next", ASCENDING), NOTHING, NOTHING, rows[:3], rows[:3]))
        self.assertIsNone(self.check(("pairs", ASCENDING), NOTHING, NOTHING, rows[:3], rows[:3]))

    def test_pairs_that_are_not_neighbours(self):
        unlike = ((("!=", "k0", "K0"),),)
        rows = ((7,), (2,), (3,), (2,), (7,))
        self.assertIsNone(self.check(("next", unlike), NOTHING, NOTHING, rows, rows))
        place = self.check(("pairs", unlike), NOTHING, NOTHING, rows, rows)
        self.assertEqual(place, ("rows", 1, 3))

    def test_of_pairs_the_first_j_and_for_it_the_first_i(self):
        # (0, 4) fails, too, and has the least i, but 3 is the first j; (2, 3) fails, too.
        rows = ((5,), (9,), (8,), (7,), (1,))
        formula = ((("<=", "k0", "K0"),), (("=", "K0", "x0"),))
        place = self.check(("pairs", formula), ((8,), ()), NOTHING, rows, rows)
        self.assertEqual(place, ("rows", 1, 3))

    def test_the_earlier_row_is_the_first_one(self):
        rows = ((1, True), (2, False))
        for kind in ("next", "pairs"):
            good = (kind, ((("<", "k0", "K0"), ("is", "m0", True), ("is", "M0", False)),))
            bad = (kind, ((("<", "K0", "k0"),), (("is", "M0", True),)))
            self.assertIsNone(self.check(good, NOTHING, NOTHING, rows, rows))
            self.assertEqual(self.check(bad, NOTHING, NOTHING, rows, rows), ("rows", 0, 1))

    def test_rows_now_are_other_than_rows_found(self):
        found, now = ((1, True), (5, False)), ((2, False), (6, True))
        one = ((("<", "w0", "k0"), ("is", "u0", True), ("is", "m0", False)),)
        self.assertEqual(self.check(("each", one), NOTHING, NOTHING, found, now), ("row", 1))
        self.assertIsNone(self.check(("some", one), NOTHING, NOTHING, found, now))
        self.assertEqual(self.check(("each", one), NOTHING, NOTHING, now, found), ("row", 0))
        two = ((("<", "w0", "k0"), ("<", "k0", "W0"), ("<", "W0", "K0")),)
        bits = ((("is", "u0", True), ("is", "U0", False), ("is", "M0", True)),)
        for kind in ("next", "pairs"):
            for formula in (two, bits):
                self.assertIsNone(self.check((kind, formula), NOTHING, NOTHING, found, now))
                place = self.check((kind, formula), NOTHING, NOTHING, now, found)
                self.assertEqual(place, ("rows", 0, 1))

    def test_two_fields_and_two_marks(self):
        table = ((1, 2, True, False), (3, 4, True, False))
        one = ((("<", "k0", "k1"), ("is", "m0", True), ("is", "m1", False)),)
        self.assertIsNone(self.check(("each", one), NOTHING, NOTHING, table, table))
        two = ((("<", "k1", "K0"), ("<", "k0", "K1"), ("is", "M1", False)),)
        self.assertIsNone(self.check(("pairs", two), NOTHING, NOTHING, table, table))
        marks = ((True, False), (False, True))
        self.assertEqual(
            self.check(("each", ((("is", "m0", True), ("is", "m1", False)),)),
                       NOTHING, NOTHING, marks, marks), ("row", 1))

    def test_against_the_words_of_the_document(self):
        chance = random.Random(61)
        keys = {"names": ("x0", "y0"), "each": ("x0", "y0", "k0", "w0"),
                "next": ("x0", "k0", "w0", "K0", "W0")}
        bits = {"names": ("p0", "q0"), "each": ("q0", "m0", "u0"), "next": ("m0", "u0", "M0", "U0")}
        for _ in range(500):
            kind = chance.choice(("names", "each", "some", "next", "pairs"))
            read = {"some": "each", "pairs": "next"}.get(kind, kind)
            formula = some_formula(chance, keys[read], bits[read])
            if chance.random() < 0.5:
                formula += ((("<=", keys[read][-2], keys[read][-1]),),)
            rows = chance.randrange(7)
            found, now = some_table(chance, (1, 1), rows), some_table(chance, (1, 1), rows)
            givens = ((chance.randrange(4),), (chance.random() < 0.5,))
            results = ((chance.randrange(4),), (chance.random() < 0.5,))
            with self.subTest(kind=kind, formula=formula, found=found, now=now):
                self.check((kind, formula), givens, results, found, now)


class Change(Case):
    def test_every_key_as_often_as_before(self):
        often = ("change", EVERY_KEY, 1, ())
        found = ((3,), (1,), (3,))
        for now in (found, ((1,), (3,), (3,)), ((3,), (3,), (1,))):
            self.assertIsNone(self.check(often, NOTHING, NOTHING, found, now))
        for now in (((1,), (1,), (3,)), ((3,), (3,), (3,)), ((0,), (3,), (3,)), ((9,), (3,), (1,))):
            self.assertIsNotNone(self.check(often, NOTHING, NOTHING, found, now))

    def test_one_row_fewer_if_the_unit_gives_back_true(self):
        clause = ("change", ((("is", "m0", False),),), 0, ((-1, ((("is", "q0", True),),)),))
        found, now = ((False,), (False,)), ((True,), (False,))
        self.assertIsNone(self.check(clause, NOTHING, ((), (True,)), found, now))
        self.assertIsNone(self.check(clause, NOTHING, ((), (False,)), found, found))
        place = self.check(clause, NOTHING, ((), (False,)), found, now)
        self.assertEqual(place, ("value", 0, -1, 0))
        place = self.check(clause, NOTHING, ((), (True,)), found, found)
        self.assertEqual(place, ("value", 0, 0, -1))
        place = self.check(clause, NOTHING, ((), (True,)), found, ((True,), (True,)))
        self.assertEqual(place, ("value", 0, -2, -1))

    def test_tables_without_rows(self):
        for shares, kept in (((), True), (((1, ALWAYS), (-1, ALWAYS)), True),
                             (((1, ALWAYS),), False), (((0, ALWAYS),), True),
                             (((-3, ()),), True)):
            for many in (0, 1):
                with self.subTest(shares=shares, many=many):
                    place = self.check(("change", ALWAYS, many, shares), NOTHING, NOTHING, (), ())
                    self.assertEqual(place is None, kept)
                    if not kept and many == 0:
                        self.assertEqual(place, ("value", 0, 0, 1))

    def test_it_comes_and_goes(self):
        often = ("change", EVERY_KEY, 1, ())
        found, now = ((3,), (1,), (2,), (4,)), ((1,), (3,), (4,), (2,))
        self.check(often, NOTHING, NOTHING, found, now)
        self.assertEqual(verdicts(often, NOTHING, NOTHING, found, now),
                         (True, False, True, False, True))

    def test_it_fails_only_at_0(self):
        clause = ("change", (), 1, ((1, ((("=", "v0", 0),),)),))
        for table in ((), ((1,), (2,))):
            place = self.check(clause, NOTHING, NOTHING, table, table)
            self.assertEqual(place, ("value", 0, 0, 1))

    def test_it_fails_only_beyond_all_keys(self):
        clause = ("change", (), 1, ((2, ((("<", "x0", "v0"), ("<", "y0", "v0")),)),))
        place = self.check(clause, ((7,), ()), ((9,), ()), (), ())
        self.assertTrue(place[1] > 9, place)
        self.assertEqual(place[2:], (0, 2))

    def test_rows_beyond_all_other_keys(self):
        # Counted are the rows less than v0: it fails only if v0 is above a greatest key.
        clause = ("change", ((("<", "k0", "v0"),),), 1, ())
        place = self.check(clause, NOTHING, NOTHING, ((7,), (6,)), ((7,), (8,)))
        self.assertEqual(place[3], 0)
        self.assertIn(place[1:3], ((7, -1), (8, -1)))
        self.assertEqual(self.check(clause, NOTHING, NOTHING, ((6,),), ((7,),))[1:], (7, -1, 0))

    def test_it_fails_only_between_two_keys(self):
        self.assertIsNone(self.check(BETWEEN, ((3,), ()), ((4,), ()), (), ()))
        place = self.check(BETWEEN, ((3,), ()), ((5,), ()), (), ())
        self.assertEqual(place, ("value", 4, 0, -1))
        for table in ((), ((4,), (6,)), ((5,),), ((1,), (29,))):
            place = self.check(BETWEEN, ((3,), ()), ((7,), ()), table, table)
            self.assertIn(place, [("value", value, 0, -1) for value in (4, 5, 6)])

    def test_it_fails_only_between_two_keys_of_the_tables(self):
        # Of rows with a key below v0 and one above it there is one more: the two fields
        # of the row were equal.
        clause = ("change", ((("<", "k0", "v0"), ("<", "v0", "k1")),), 1, ())
        self.assertIsNone(self.check(clause, NOTHING, NOTHING, ((3, 3),), ((3, 4),)))
        self.assertIsNone(self.check(clause, NOTHING, NOTHING, ((3, 4),), ((5, 6),)))
        place = self.check(clause, NOTHING, NOTHING, ((3, 3),), ((3, 5),))
        self.assertEqual(place, ("value", 4, 1, 0))
        place = self.check(clause, NOTHING, NOTHING, ((0, 2),), ((0, 1),))
        self.assertEqual(place, ("value", 1, -1, 0))

    def test_great_keys(self):
        great = 10 ** 30 - 1
        gap = ((("<", "x0", "v0"), ("<", "v0", "y0")),)
        clause = ("change", (), 1, ((3, gap),))
        self.assertTrue(keeps(clause, ((great - 1,), ()), ((great,), ()), (), ()))
        place = failure(clause, ((great - 2,), ()), ((great,), ()), (), ())
        self.assertEqual(place, ("value", great - 1, 0, 3))

    def test_a_value_that_does_not_occur(self):
        # With one value the place has some value, with none it has 0.
        for many in (0, 1):
            place = self.check(("change", MARKED, many, ()), NOTHING, NOTHING, ((True,),), ((False,),))
            self.assertEqual(place[2:], (-1, 0))
        self.assertEqual(failure(("change", MARKED, 0, ()), ((5,), ()), NOTHING,
                                 ((True,),), ((False,),)), ("value", 0, -1, 0))

    def test_a_rising_map_never_makes_it_kept(self):
        chance = random.Random(25)
        lost = 0
        for _ in range(300):
            clause = BETWEEN if chance.random() < 0.2 else self.some_change(chance)
            given = ((chance.randrange(5),), ()), ((chance.randrange(5),), (True,))
            rows = chance.randrange(4)
            tables = some_table(chance, (1, 1), rows), some_table(chance, (1, 1), rows)
            mapped = tuple((tuple(4 * k + (k > 2) for k in keys), bits) for keys, bits in given)
            wide = tuple(tuple((4 * k + (k > 2), b) for k, b in table) for table in tables)
            with self.subTest(clause=clause, given=given, tables=tables):
                told, there = keeps(clause, *given, *tables), keeps(clause, *mapped, *wide)
                self.assertTrue(told or not there)
                lost += told and not there
        self.assertGreater(lost, 0)

    def some_change(self, chance):
        many = chance.randrange(2)
        value = ("v0",) * many
        shares = tuple(
            (chance.randrange(-3, 4), some_formula(chance, ("x0", "y0") + value * 2, ("q0",)))
            for _ in range(chance.randrange(3))
        )
        formula = some_formula(chance, ("k0",) + value * 2, ("m0",))
        return ("change", formula, many, shares)

    def test_against_the_words_of_the_document(self):
        chance = random.Random(62)
        kept = 0
        for _ in range(600):
            clause = self.some_change(chance)
            rows = chance.randrange(5)
            found = some_table(chance, (1, 1), rows, 7)
            now = some_table(chance, (1, 1), rows, 7)
            if chance.random() < 0.4:
                now = tuple(chance.sample(found, rows))
            givens = ((chance.randrange(9),), ())
            results = ((chance.randrange(9),), (chance.random() < 0.5,))
            with self.subTest(clause=clause, found=found, now=now):
                kept += self.check(clause, givens, results, found, now) is None
        self.assertTrue(100 < kept < 500, kept)


class Counts(unittest.TestCase):
    def test_count(self):
        table = ((3, 1, True), (1, 1, False), (3, 4, True), (0, 0, False))
        for formula, value, wanted in (
            (EVERY_KEY, 3, 2), (EVERY_KEY, 4, 0), (EVERY_KEY, 0, 1),
            (((("<", "k0", "v0"), ("<=", "v0", "k1")),), 4, 1),
            (MARKED, 0, 2), (MARKED, 77, 2), ((), 3, 0), (ALWAYS, 3, 4),
            (((("=", "k0", "k1"),),), 5, 2),
        ):
            with self.subTest(formula=formula, value=value):
                self.assertEqual(count(formula, value, table), wanted)
                self.assertEqual(count(formula, value, ()), 0)

    def test_due_without_shares(self):
        self.assertEqual(due((), NOTHING, NOTHING, 0), 0)
        self.assertEqual(due((), ((1, 2), (True,)), ((3,), (False,)), 5), 0)

    def test_due(self):
        shares = ((1, ((("=", 0, "v0"),),)), (-1, ((("=", "y0", "v0"),),)))
        for result, value, wanted in ((6, 6, -1), (0, 0, 0), (6, 0, 1), (6, 5, 0)):
            self.assertEqual(due(shares, NOTHING, ((result,), ()), value), wanted)

    def test_due_of_names_alone(self):
        shares = ((-3, ((("is", "p0", True),),)), (2, ((("is", "q0", True), ("<", "x0", "y1")),)))
        for given, result, wanted in ((True, True, -1), (True, False, -3), (False, True, 2),
                                      (False, False, 0)):
            givens, results = ((4,), (given,)), ((0, 5), (result,))
            self.assertEqual(due(shares, givens, results, 0), wanted)

    def test_two_shares_of_one_formula(self):
        self.assertEqual(due(((-2, ALWAYS), (-2, ALWAYS)), NOTHING, NOTHING, 0), -4)
        self.assertEqual(due(((-2, ()), (3, ALWAYS)), NOTHING, NOTHING, 0), 3)

    def test_against_the_words_of_the_document(self):
        chance = random.Random(620)
        for _ in range(200):
            formula = some_formula(chance, ("k0", "k1", "v0"), ("m0",))
            table = some_table(chance, (2, 1), chance.randrange(8))
            value = chance.randrange(5)
            share = some_formula(chance, ("x0", "y0", "v0"), ("p0",))
            givens, results = ((chance.randrange(4),), (True,)), ((chance.randrange(4),), ())
            shares = ((chance.randrange(-3, 4), share),)
            with self.subTest(formula=formula, table=table, share=share, value=value):
                self.assertEqual(count(formula, value, table), slow_count(formula, value, table))
                wanted = slow_due(shares, givens, results, value)
                self.assertEqual(due(shares, givens, results, value), wanted)


class Beginnings(unittest.TestCase):
    def test_what_is_lost_is_lost_and_what_is_found_is_found(self):
        chance = random.Random(66)
        for _ in range(200):
            kind = chance.choice(("each", "next", "pairs", "some", "names"))
            keys = {"each": ("k0", "w0"), "some": ("k0", "w0"), "names": ()}.get(kind, ("k0", "K0"))
            formula = some_formula(chance, keys, ("q0",))
            table = some_table(chance, (1, 0), 6)
            truths = verdicts((kind, formula), NOTHING, ((), (True,)), table, table[::-1])
            with self.subTest(kind=kind, formula=formula, table=table):
                if kind == "some":
                    self.assertEqual(list(truths), sorted(truths))
                    self.assertIs(truths[0], False)
                elif kind == "names":
                    self.assertEqual(len(set(truths)), 1)
                else:
                    self.assertEqual(list(truths), sorted(truths, reverse=True))
                    self.assertIs(truths[0], True)


if __name__ == "__main__":
    unittest.main()
