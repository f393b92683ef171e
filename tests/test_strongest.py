"""What can occur: [220] to [222]."""

import random
import unittest
from itertools import product

from anylength import strongest as module
from anylength.columns import complete
from anylength.deciding import decide
from anylength.errors import TooWide
from anylength.formulas import holds, terms_of
from anylength.logic import against
from anylength.orders import orders, ranks
from anylength.playing import play
from anylength.questions import layout, width
from anylength.tracks import follow, path
from tests.every import every_run, how_many
from tests.making import some_library
from tests.short import (
    ALWAYS, ASCENDING, CARRY, CLIMB, HASTY, LAST, MARKED, MARKS, NEVER, SET, TOP, asked, body, call, contract,
)
from tests.slow import back, named, slow_play, slow_told, split
from tests.some import some_seen
from tests.support import asked as twice
from tests.support import keys_of, some_formula

strongest = twice(module.strongest)
shown = twice(module.shown)
promise = twice(module.promise)

FALSE = ("names", NEVER)
ROW_TERMS = "wkum"


def case_of(library, unit, keys, bits, told, row):
    """The case that a run shows at a row, None if it is no run from before; answers are allowed."""
    contract_, body_ = library[1][unit]
    if slow_play((library, unit, ("clause", ("names", ALWAYS))), told) != ("kept",):
        return None
    _, _, names, left = slow_told(library, body_[0], told[0], told[1], told[2])
    terms = {**named("xp", told[0]), **named("yq", back(names, body_))}
    if row is not None:
        terms.update(named("wu", split(told[1][row])))
        terms.update(named("km", split(left[row])))
    return ranks(tuple(terms[term] for term in keys)), tuple(terms[term] for term in bits)


def all_cases(keys, bits):
    return list(product(orders(len(keys)), product((False, True), repeat=len(bits))))


class Case(unittest.TestCase):
    def check(self, library, unit, keys, bits):
        """The cases, after a look at each of them, and at the promise."""
        cases = strongest(library, unit, keys, bits)
        self.assertEqual(list(cases), sorted(set(cases)))
        rowed = any(term[0] in ROW_TERMS for term in keys + bits)
        for case in all_cases(keys, bits):
            told = shown(library, unit, keys, bits, case)
            self.assertIs(told is not None, case in cases)
            if told:
                self.check_shown(library, unit, keys, bits, case, told, rowed)
        self.check_promise(library, unit, keys, bits, cases, rowed)
        return cases

    def check_shown(self, library, unit, keys, bits, case, shown_one, rowed):
        told, row = shown_one
        self.assertIs(row is None, not rowed)
        self.assertEqual(case_of(library, unit, keys, bits, told, row), case)
        self.assertEqual(ranks(keys_of(told)), keys_of(told))
        question = (library, unit, ("seen", keys, bits))
        found = follow(question, path(question, told, row=row))
        self.assertEqual(len(found), len(told[1]) + 1)
        self.assertTrue(complete(question, found[-1][:2]))
        self.assertEqual(found[-1][2], 0)

    def check_promise(self, library, unit, keys, bits, cases, rowed):
        kind, formula = promise(library, unit, keys, bits)
        self.assertEqual(kind, "each" if rowed else "names")
        self.assertLessEqual(set(terms_of(formula)), set(keys + bits))
        for order, truths in all_cases(keys, bits):
            view = tuple(zip(keys, order)) + tuple(zip(bits, truths))
            self.assertIs(holds(formula, view), (order, truths) in cases)
        question = (library, unit, ("clause", (kind, formula)))
        if width(question) <= 3000:
            self.assertEqual(decide(question)[0], "holds")


class Cases(Case):
    def test_the_examples(self):
        self.assertEqual(self.check(TOP, 0, ("k0", "y0"), ()), (((0, 0), ()), ((0, 1), ()), ((1, 1), ()), ((1, 2), ())))
        found = self.check(MARKS, 0, (), ("m0", "q0"))
        self.assertEqual(found, (((), (False, False)), ((), (False, True)), ((), (True, True))))
        self.assertEqual(self.check(MARKS, 0, (), ("q0",)), (((), (False,)), ((), (True,))))
        self.assertEqual(self.check(MARKS, 0, (), ()), (((), ()),))

    def test_the_order_of_the_terms(self):
        self.assertEqual(self.check(TOP, 0, ("y0", "k0"), ()), (((0, 0), ()), ((1, 0), ()), ((1, 1), ()), ((2, 1), ())))
        found = self.check(MARKS, 0, (), ("q0", "m0"))
        self.assertEqual(found, (((), (False, False)), ((), (True, False)), ((), (True, True))))

    def test_key_terms_of_each_letter(self):
        # The given key takes the place of the first one, and each key that of the one behind it.
        before = (("names", ((("!=", "x0", 0),),)), ("each", ((("<", "k0", "x0"),),)))
        swap = ("up", ("x0",), (), (((), (("k0", "r0"), ("r0", "k0")), False),), ())
        library = ((1, 0), ((contract((1, 0), (1, 0), before), body(swap, keys=("x0",))),))
        self.assertEqual(self.check(library, 0, ("x0",), ()), (((1,), ()),))
        self.assertEqual(self.check(library, 0, ("y0", "x0"), ()), (((1, 1), ()),))
        self.assertEqual(self.check(library, 0, ("w0", "x0"), ()), (((0, 1), ()), ((1, 2), ())))
        found = self.check(library, 0, ("w0", "x0", "k0"), ())
        self.assertEqual([order for order, _ in found], [
            (0, 1, 0), (0, 1, 1), (0, 2, 1), (1, 2, 0), (1, 2, 1), (1, 2, 2), (1, 3, 2), (2, 3, 1)])
        found = self.check(library, 0, ("k0", "y0"), ())
        self.assertEqual([order for order, _ in found], [(0, 1), (1, 1), (1, 2)])

    def test_bit_terms_of_each_letter(self):
        swap = ("up", (), ("p0",), (((), (("m0", "f0"), ("f0", "m0")), False),), ("f0",))
        before = (("each", ((("is", "p0", True),), (("is", "m0", True),))),)
        library = ((0, 1), ((contract((0, 1), (0, 1), before), body(swap, bits=("g0",))),))
        every = tuple(((), pair) for pair in product((False, True), repeat=2))
        self.assertEqual(self.check(library, 0, (), ("p0", "q0")), every)
        self.assertEqual(self.check(library, 0, (), ("m0", "u0")), every)
        # Without the given bit all marks are there, and only the first row loses its mark.
        self.assertEqual(self.check(library, 0, (), ("p0", "u0")), (every[1], every[2], every[3]))
        self.assertEqual(self.check(library, 0, (), ("p0", "m0")), every)
        self.assertEqual(self.check(library, 0, (), ("u0", "q0")), every)

    def test_row_terms_speak_of_the_same_row(self):
        library = ((1, 1), ((contract(before=(("each", ((("=", "k0", 0), ("is", "m0", True)),
                                                        (("!=", "k0", 0), ("is", "m0", False)))),)), body()),))
        self.assertEqual(self.check(library, 0, ("k0",), ("m0",)), (((0,), (True,)), ((1,), (False,))))

    def test_found_and_now(self):
        library = ((0, 2), ((contract(), body(SET, ("down", (), (), (((), (("m1", "m0"),), False),), ()))),))
        self.assertEqual(self.check(library, 0, (), ("u0", "m0")), (((), (False, True)), ((), (True, True))))
        self.assertEqual(self.check(library, 0, (), ("m1", "u1")), (((), (True, False)), ((), (True, True))))

    def test_results_that_are_no_names(self):
        library = ((1, 0), ((contract((1, 1), (2, 1)), body(keys=(0, "x0"), bits=(True,))),))
        self.assertEqual(self.check(library, 0, ("y0", "y1"), ("q0",)), (((0, 0), (True,)), ((0, 1), (True,))))
        self.assertEqual(self.check(library, 0, ("x0", "y1", "k0"), ()), tuple(
            ((rank, rank, other), ()) for rank, other in ((0, 0), (0, 1), (1, 0), (1, 1), (1, 2), (2, 1))))

    def test_without_terms(self):
        self.assertEqual(promise(MARKS, 0, (), ()), ("names", ALWAYS))
        self.assertEqual(shown(MARKS, 0, (), (), ((), ())), ((((), ()), (), (), 0), None))

    def test_no_run_from_before(self):
        for before in ((FALSE,), (("some", NEVER),), (("each", NEVER), ("some", ALWAYS))):
            library = ((1, 1), ((contract((1, 1), before=before), body(SET)),))
            for keys, bits in (((), ()), (("x0",), ("p0",)), (("k0",), ("u0",))):
                self.assertEqual(self.check(library, 0, keys, bits), ())
                kind = "each" if "k0" in keys else "names"
                self.assertEqual(promise(library, 0, keys, bits), (kind, ()))

    def test_only_runs_without_rows(self):
        library = ((1, 0), ((contract((1, 0), before=(("each", NEVER),)), body()),))
        self.assertEqual(self.check(library, 0, ("x0",), ()), (((0,), ()), ((1,), ())))
        self.assertEqual(self.check(library, 0, ("x0", "k0"), ()), ())

    def test_calls_count_by_their_contracts(self):
        guard = (("is", "p0", True),)
        units = ((contract((0, 1)), body(call(1, guard=guard))),
                 (contract(after=(("each", ((("<", "w0", "k0"),),)),)), None))
        library = ((1, 0), units)
        wanted = (((0, 0), (False,)), ((0, 1), (True,)), ((1, 1), (False,)), ((1, 2), (True,)))
        self.assertEqual(self.check(library, 0, ("w0", "k0"), ("p0",)), wanted)
        called = contract((1, 0), (1, 0), after=(("names", ((("<", "x0", "y0"),),)),))
        units = ((contract((1, 1), (1, 0)), body(call(1, ("x0",), guard=guard), keys=("n0",))), (called, None))
        self.assertEqual(self.check(((0, 1), units), 0, ("y0", "x0"), ("p0",)), (
            ((0, 0), (False,)), ((0, 1), (False,)), ((1, 0), (True,)), ((2, 1), (True,))))

    def test_what_after_says_plays_no_part(self):
        self.assertEqual(strongest(MARKS, 0, (), ("m0",)), (((), (False,)), ((), (True,))))
        self.assertEqual(strongest(HASTY, 0, (), ("m0",)), (((), (False,)),))

    def test_all_items_are_carried_out(self):
        library = ((0, 1), ((contract(falls=(MARKED, 1)), body(call(0, guard=(("<", 0, 0),)), SET)),))
        self.assertEqual(self.check(library, 0, (), ("m0", "u0")), (((), (True, False)), ((), (True, True))))

    def test_against_a_slow_search(self):
        chance = random.Random(17)
        met, asked_for = 0, 0
        while asked_for < 60:
            library = some_library(chance, gaps=0)
            unit = chance.randrange(len(library[1]))
            aim = some_seen(chance, library, unit)
            if width((library, unit, aim)) > 1000:
                continue
            asked_for += 1
            cases = self.check(library, unit, aim[1], aim[2])
            least = self.slow_cases(library, unit, aim)
            for case, rows in least.items():
                self.assertIn(case, cases)
                self.assertLessEqual(len(shown(library, unit, aim[1], aim[2], case)[0][1]), rows)
                met += 1
        self.assertGreater(met, 80)

    def slow_cases(self, library, unit, aim):
        """The cases of all runs on few rows, with the least number of rows."""
        rowed = any(term[0] in ROW_TERMS for term in aim[1] + aim[2])
        question, found = (library, unit, ("clause", ("names", ALWAYS))), {}
        for rows in range(3):
            if how_many(question, rows) > 400:
                break
            for told in every_run(question, rows):
                for row in range(rows) if rowed else (None,):
                    case = case_of(library, unit, aim[1], aim[2], told, row)
                    if case is not None:
                        found.setdefault(case, rows)
        return found


class Shown(Case):
    def test_the_fewest_rows(self):
        # Both orders of a row and the greatest key need one or two rows.
        for case, rows in ((((0, 0), ()), 1), (((0, 1), ()), 2), (((1, 1), ()), 1), (((1, 2), ()), 2)):
            told, row = shown(TOP, 0, ("k0", "y0"), (), case)
            self.assertEqual(len(told[1]), rows)
            self.assertIn(row, range(rows))
        told, row = shown(TOP, 0, ("y0",), (), ((1,), ()))
        self.assertEqual((told, row), ((((), ()), ((1,),), (), 0), None))

    def test_the_told_row(self):
        told, row = shown(MARKS, 0, (), ("m0", "q0"), ((), (True, True)))
        self.assertEqual((told[1], row), (((True,), (True,)), 1))

    def test_cases_that_do_not_occur(self):
        self.assertIsNone(shown(TOP, 0, ("k0", "y0"), (), ((2, 1), ())))
        self.assertIsNone(shown(MARKS, 0, (), ("m0", "q0"), ((), (True, False))))

    def test_keys_in_an_order(self):
        told, row = shown(LAST, 0, ("w0", "y0"), (), ((2, 1), ()))
        self.assertEqual((told[1], row), (((2,), (1,)), 0))


class Promises(Case):
    def test_the_strongest_clause(self):
        chance = random.Random(18)
        for library, unit, keys, bits in ((TOP, 0, ("k0", "y0"), ()), (MARKS, 0, (), ("m0", "q0")),
                                          (LAST, 0, ("k0", "y0"), ()), (MARKS, 0, (), ("q0",)), (TOP, 0, ("y0",), ())):
            cases = strongest(library, unit, keys, bits)
            strong = promise(library, unit, keys, bits)
            for _ in range(12):
                weak = some_formula(chance, list(keys), list(bits))
                kept = all(holds(weak, tuple(zip(keys, order)) + tuple(zip(bits, truths))) for order, truths in cases)
                verdict = decide((library, unit, ("clause", (strong[0], weak))))[0]
                self.assertEqual(verdict, "holds" if kept else "broken")
                self.assertIs(against(strong[1], weak) is None, kept)

    def test_a_promise_may_be_passed_on(self):
        strong = promise(TOP, 0, ("k0", "y0"), ())
        question = asked((1, 0), ("after", 0), (contract(gives=(1, 0), after=(strong,)), body(CLIMB, keys=("n0",))))
        self.assertEqual(decide(question)[0], "holds")
        told = ((((), ()), ((3,), (4,)), (), 0))
        self.assertEqual(play(question, told), ("kept",))
        other = asked((1, 0), ("clause", strong), *LAST[1])
        self.assertEqual(decide(other)[0], "broken")

    def test_all_cases(self):
        library = ((1, 0), ((contract((2, 0)), body()),))
        kind, formula = promise(library, 0, ("x0", "x1", "k0"), ())
        self.assertEqual((kind, len(strongest(library, 0, ("x0", "x1", "k0"), ()))), ("each", 26))
        self.assertIsNone(against(ALWAYS, formula))


class Limits(Case):
    def test_the_width(self):
        question = (TOP, 0, ("seen", ("k0", "y0"), ()))
        self.assertEqual(layout(question), ((("name", "n0"), ("item", 0, "r0"), ("goal", "k0")), (("goal", "held"),)))
        number = width(question)
        self.assertEqual(number, 150 * 4)
        doors = (lambda **limit: strongest(TOP, 0, ("k0", "y0"), (), **limit),
                 lambda **limit: shown(TOP, 0, ("k0", "y0"), (), ((0, 0), ()), **limit),
                 lambda **limit: shown(TOP, 0, ("k0", "y0"), (), ((2, 1), ()), **limit),
                 lambda **limit: promise(TOP, 0, ("k0", "y0"), (), **limit))
        for door in doors:
            self.assertEqual(door(limit=number), door())
            for limit in (number - 1, 0):
                with self.assertRaises(TooWide) as caught:
                    door(limit=limit)
                self.assertEqual(caught.exception.number, number)

    def test_no_limit_told(self):
        library = ((2, 1), ((contract((2, 0), before=(("next", ASCENDING),)), body(CLIMB, CARRY)),))
        number = width((library, 0, ("seen", ("k0",), ())))
        self.assertGreater(number, 10000)
        for door in (strongest, promise):
            with self.assertRaises(TooWide) as caught:
                door(library, 0, ("k0",), ())
            self.assertEqual(caught.exception.number, number)
        with self.assertRaises(TooWide):
            shown(library, 0, ("k0",), (), ((0,), ()))


if __name__ == "__main__":
    unittest.main()
