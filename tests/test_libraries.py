"""Libraries: [105] to [107], with_after, and [146] as far as the bound."""

import random
import unittest

from anylength import libraries as module
from anylength.errors import BadCall, BadResults, BadTerm, NoContract, TooLong
from anylength.runs import run
from tests.making import AFTER, numbers_of, some_easy_clause, some_library, some_pair
from tests.support import asked, some_table

check_library = asked(module.check_library)
callers = asked(module.callers)
reaches = asked(module.reaches)
out_of_order = asked(module.out_of_order)
bound = asked(module.bound)
with_after = asked(module.with_after)

NEVER = (("<", 0, 0),)
MARKED = ((("is", "m0", True),),)
WALK = ("up", (), (), (), ())


def contract(falls=None, before=(), after=()):
    return ((0, 0), (0, 0), before, after, falls)


def calls(*called, guard=()):
    """A body that calls these units, one after another."""
    return (tuple(("call", unit, (), (), guard) for unit in called), (), ())


def library(*bodies, falls=None):
    """Units with these bodies, or gaps; all of them fall by the same."""
    return ((0, 1), tuple((contract(falls), body) for body in bodies))


class CheckLibrary(unittest.TestCase):
    def fails(self, error, attribute, wanted, *units, shape=(0, 1)):
        with self.assertRaises(error) as caught:
            module.check_library((shape, units))
        if attribute is not None:
            self.assertEqual(getattr(caught.exception, attribute), wanted)

    def test_right_libraries(self):
        chance = random.Random(106)
        for _ in range(150):
            self.assertIsNone(check_library(some_library(chance)))
        for units in ((None,), (None, None, None, None), ((contract(), None),),
                      (None, (contract(), calls(1, 1)), None)):
            self.assertIsNone(check_library(((0, 1), units)))

    def test_the_contracts_of_all_units_ahead_of_the_bodies(self):
        bad = ("names", ((("=", "k0", 0),),))
        wrong_body = calls(3, 0)
        self.fails(BadTerm, "term", "k0",
                   (contract(), wrong_body), None, (contract(after=(bad,)), None))
        self.fails(BadTerm, "term", "k0", (contract(before=(bad,)), wrong_body))
        self.fails(NoContract, "unit", 3, (contract(), wrong_body), None, (contract(), None))

    def test_the_first_contract_and_the_first_body_that_do_not_fit(self):
        bad = [contract(after=(("names", ((("=", term, 0),),)),)) for term in ("k0", "w0", "y0")]
        for at in range(3):
            units = tuple((one, None) for one in (contract(),) * at + tuple(bad[at:]))
            self.fails(BadTerm, "term", ("k0", "w0", "y0")[at], *units)
        two = ((("up", ("x0",), (), (), ()),), (), ()), ((), (0,), ())
        self.fails(BadTerm, "term", "x0", *((contract(), body) for body in two))
        self.fails(BadResults, None, None, *((contract(), body) for body in two[::-1]))
        self.fails(BadTerm, "term", "x0", None, (contract(), None), (contract(), two[0]))

    def test_units_without_a_contract_and_gaps(self):
        self.fails(NoContract, "unit", 0, None, (contract(), calls(0)))
        self.fails(NoContract, "unit", 2, (contract(), calls(2)), (contract(), None))
        self.assertIsNone(check_library(library(calls(1), None)))

    def test_a_call_that_does_not_fit_a_later_contract(self):
        takes = ((1, 0), (0, 0), (), (), None)
        self.fails(BadCall, "item", 0, (contract(), calls(1)), (takes, None))

    def test_shapes(self):
        one = ((0, 0), (0, 0), (), (("each", ((("=", "k1", 0),),)),), None)
        self.assertIsNone(check_library(((2, 0), ((one, None),))))
        self.fails(BadTerm, "term", "k1", (one, None), shape=(1, 2))


class Calling(unittest.TestCase):
    def test_callers(self):
        told = library(calls(1), calls(2, 2), None, calls(3, 1))
        self.assertEqual([callers(told, unit) for unit in range(4)], [(), (0, 3), (1,), (3,)])

    def test_reaches(self):
        told = library(calls(1), calls(2, 2), None, calls(3, 1))
        wanted = [(0, 1, 2), (1, 2), (2,), (1, 2, 3)]
        self.assertEqual([reaches(told, unit) for unit in range(4)], wanted)

    def test_units_that_call_one_another(self):
        told = library(calls(2), calls(), calls(0, 3), calls(3))
        self.assertEqual([reaches(told, unit) for unit in range(4)],
                         [(0, 2, 3), (1,), (0, 2, 3), (3,)])
        self.assertEqual([callers(told, unit) for unit in range(4)], [(2,), (), (0,), (2, 3)])

    def test_calls_whose_guard_never_holds(self):
        told = library(calls(1, guard=NEVER), calls())
        self.assertEqual((callers(told, 1), reaches(told, 0)), ((0,), (0, 1)))
        self.assertEqual(out_of_order(told, 0), ((0, 0),))
        self.assertIsNone(bound(told, 0, 0))

    def test_units_without_a_contract(self):
        told = ((0, 1), (None, (contract(), calls(3)), None, (contract(), None)))
        self.assertEqual((callers(told, 3), callers(told, 1)), ((1,), ()))
        self.assertEqual((reaches(told, 3), reaches(told, 1)), ((3,), (1, 3)))

    def test_against_the_words_of_the_document(self):
        chance = random.Random(1060)
        for _ in range(150):
            told = some_library(chance)
            units = range(len(told[1]))
            links = {unit: {item[1] for item in (told[1][unit][1] or ((),))[0] if item[0] == "call"}
                     for unit in units}
            for unit in units:
                self.assertEqual(callers(told, unit), tuple(o for o in units if unit in links[o]))
                reached = {unit}
                for _ in units:
                    reached |= {called for one in reached for called in links[one]}
                self.assertEqual(reaches(told, unit), tuple(sorted(reached)))


class OutOfOrder(unittest.TestCase):
    def test_greater_numbers(self):
        told = library(calls(0, 1), calls(0, 0), calls(1, 0), falls=(MARKED, 1))
        self.assertEqual(out_of_order(told, 0), ((0, 1),))
        self.assertEqual(out_of_order(told, 1), ((0, 1),))
        self.assertEqual(out_of_order(told, 2), ((0, 1),))

    def test_calls_of_itself(self):
        for falls, wanted in ((None, ((0, 0), (0, 2))), ((MARKED, 3), ())):
            told = library(((("call", 0, (), (), ()), WALK, ("call", 0, (), (), ())), (), ()),
                           falls=falls)
            self.assertEqual(out_of_order(told, 0), wanted)

    def test_falls_of_the_own_contract_counts(self):
        one, two = (contract((MARKED, 1)), calls(0)), (contract(), calls(1, 0))
        self.assertEqual(out_of_order(((0, 1), (one, two)), 1), ((1, 0),))
        self.assertEqual(out_of_order(((0, 1), (one, two)), 0), ())
        two = (contract((MARKED, 1)), calls(1, 0))
        self.assertEqual(out_of_order(((0, 1), ((contract(), calls(0)), two)), 1), ((0, 0),))

    def test_only_of_units_that_are_reached(self):
        told = library(calls(), calls(3), calls(0), None)
        self.assertEqual([out_of_order(told, unit) for unit in range(4)], [(), ((1, 0),), (), ()])

    def test_ascending(self):
        told = library(calls(2, 3), calls(1, 1), calls(1, 3), calls(0, 1))
        self.assertEqual(out_of_order(told, 3), ((0, 0), (0, 1), (1, 0), (1, 1), (2, 1)))
        self.assertEqual(out_of_order(told, 1), ((1, 0), (1, 1)))


def slow_bound(told, unit, rows):
    """The bound by the formula of [107], for units without calls out of order."""
    called = [item[1] for item in told[1][unit][1][0] if item[0] == "call"]
    a = 1 + sum(slow_bound(told, other, rows) for other in called if other != unit)
    s = called.count(unit)
    if s == 0:
        return a
    by = told[1][unit][0][4][1]
    return a * sum(s ** power for power in range(rows // by + 1))


class Bound(unittest.TestCase):
    def test_without_calls(self):
        for rows in (0, 1, 12):
            self.assertEqual(bound(library(calls()), 0, rows), 1)
            self.assertEqual(bound(library(((WALK, WALK), (), ())), 0, rows), 1)

    def test_a_unit_that_is_called_twice_counts_twice(self):
        told = library(calls(), calls(0, 0), calls(1, 1), calls(2, 0))
        for rows in (0, 12):
            self.assertEqual([bound(told, unit, rows) for unit in range(4)], [1, 3, 7, 9])

    def test_calls_of_itself(self):
        for by in (1, 2, 3):
            once, twice = (library(calls(*own), falls=(MARKED, by)) for own in ((0,), (0, 0)))
            for rows in range(13):
                self.assertEqual(bound(once, 0, rows), rows // by + 1)
                self.assertEqual(bound(twice, 0, rows), 2 ** (rows // by + 1) - 1)
        self.assertEqual(bound(twice, 0, 0), 1)

    def test_both(self):
        told = library(calls(0), calls(0, 1), calls(1, 1), calls(3, 3), falls=(MARKED, 2))
        for rows in (0, 1, 2, 5, 12):
            half = rows // 2
            one = (half + 1)
            two = (1 + one) * (half + 1)
            self.assertEqual(bound(told, 0, rows), one)
            self.assertEqual(bound(told, 1, rows), two)
            self.assertEqual(bound(told, 2, rows), 1 + 2 * two)
            self.assertEqual(bound(told, 3, rows), 2 ** (half + 1) - 1)

    def test_gaps_that_are_reached_and_not_reached(self):
        told = library(None, calls(), calls(1), calls(2, 0))
        self.assertEqual([bound(told, unit, 3) for unit in range(4)], [None, 1, 2, None])

    def test_calls_out_of_order(self):
        told = library(calls(0), calls(), calls(0), calls(1))
        self.assertEqual([bound(told, unit, 2) for unit in range(4)], [None, 1, None, 2])
        told = library(calls(1), calls(), calls(1), calls(0))
        self.assertEqual([bound(told, unit, 2) for unit in range(4)], [None, 1, 2, None])

    def test_great_numbers(self):
        told = library(calls(0, 0), calls(1, 0), calls(2, 1), calls(3, 2), falls=(MARKED, 1))
        self.assertEqual(bound(told, 3, 12), slow_bound(told, 3, 12))

    def test_against_the_formula(self):
        chance = random.Random(107)
        counted = 0
        for _ in range(300):
            told = some_library(chance, gaps=0.1, only_below=chance.random() < 0.7)
            for unit in range(len(told[1])):
                rows = chance.randrange(13)
                gap = any(told[1][one][1] is None for one in reaches(told, unit))
                none = gap or out_of_order(told, unit) != ()
                with self.subTest(told=told, unit=unit, rows=rows):
                    wanted = None if none else slow_bound(told, unit, rows)
                    self.assertEqual(bound(told, unit, rows), wanted)
                    counted += not none
        self.assertGreater(counted, 300)

    def test_at_most_so_many_units_begin(self):
        # Without calls of itself a unit is total if its calls are in order: [146].
        chance = random.Random(146)
        for _ in range(200):
            told = some_library(chance, gaps=0, only_below=True)
            unit = len(told[1]) - 1
            table = some_table(chance, told[0], chance.randrange(4))
            givens = some_pair(chance, told[1][unit][0][0])
            most = bound(told, unit, len(table))
            if most <= 40:
                run(told, unit, givens, table, most=most)

    def test_a_unit_that_unmarks_and_calls_itself(self):
        unmark = ("up", (), (False,), (((("is", "m0", True), ("is", "f0", False)),
                                        (("m0", False), ("f0", True)), False),), ("f0",))
        again = ("call", 0, (), (), (("is", "g0", True),))
        told = ((0, 1), ((contract((MARKED, 1)), ((unmark, again), (), ())),))
        for rows in range(6):
            table = ((True,),) * rows
            most = bound(told, 0, rows)
            self.assertEqual(most, rows + 1)
            self.assertEqual(run(told, 0, ((), ()), table, most=most)[1], ((False,),) * rows)
            if most > 1:
                with self.assertRaises(TooLong):
                    run(told, 0, ((), ()), table, most=most - 1)


class WithAfter(unittest.TestCase):
    def test_no_clauses_to_three(self):
        clauses = (("names", ((),)), ("some", MARKED), ("change", MARKED, 0, ()))
        after = (("each", MARKED),)
        told = ((0, 1), (None, (contract(after=after), calls(1)), (contract(), None)))
        for many in range(4):
            for unit in (1, 2):
                found = with_after(told, unit, clauses[:many])
                one, body = told[1][unit]
                changed = ((*one[:3], one[3] + clauses[:many], one[4]), body)
                self.assertEqual(found[0], told[0])
                self.assertEqual(found[1][unit], changed)
                for other in range(3):
                    if other != unit:
                        self.assertEqual(found[1][other], told[1][other])
        self.assertEqual(with_after(told, 1, ()), told)

    def test_clauses_that_are_there_already(self):
        after = (("each", MARKED), ("each", MARKED))
        told = ((0, 1), ((contract((MARKED, 2), after=after), None),))
        found = with_after(told, 0, after[:1])
        self.assertEqual(found, ((0, 1), ((contract((MARKED, 2), after=after + after[:1]), None),)))
        self.assertEqual(len(with_after(found, 0, after)[1][0][0][3]), 5)

    def test_random_libraries_stay_right(self):
        chance = random.Random(260)
        for _ in range(100):
            told = some_library(chance)
            unit = chance.randrange(len(told[1]))
            one = told[1][unit][0]
            numbers = numbers_of(told[0], one[0], one[1])
            clauses = tuple(some_easy_clause(chance, AFTER, numbers) for _ in range(2))
            found = with_after(told, unit, clauses)
            self.assertIsNone(check_library(found))
            self.assertEqual(found[1][unit][0][3], one[3] + clauses)


if __name__ == "__main__":
    unittest.main()
