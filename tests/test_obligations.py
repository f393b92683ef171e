"""Obligations: [140], [141] and [143]."""

import random
import unittest

from anylength import obligations as module
from anylength.libraries import check_library
from tests.making import some_library
from tests.slow import slow_obligations, slow_pieces
from tests.support import asked
from tests.told import POOL, runs_from_before

obligations = asked(module.obligations)
pieces = asked(module.pieces)

NOTHING = ((), ())
NEVER = (("<", 0, 0),)
ALWAYS = ((),)
MARKED = ((("is", "m0", True),),)
SET = ("up", (), (), (((), (("m0", True),), False),), ())
FRONT = ("up", (), (False,), (((("is", "f0", False),), (("m0", False), ("f0", True)), False),), ())
TWO, MANY = ((False,), (False,)), ((True,), (False,), (True,), (True,))


def contract(takes=(0, 0), gives=(0, 0), before=(), after=(), falls=None):
    return (takes, gives, before, after, falls)


def call(unit, keys=(), bits=(), guard=()):
    return ("call", unit, keys, bits, guard)


class Obligations(unittest.TestCase):
    def test_units_without_calls_and_without_clauses(self):
        told = ((0, 1), ((contract(), ((SET,), (), ())), (contract(falls=(MARKED, 1)), ((), (), ()))))
        self.assertEqual((obligations(told, 0), obligations(told, 1)), ((), ()))

    def test_after(self):
        after = (("names", ALWAYS), ("each", MARKED), ("change", MARKED, 0, ()))
        for many in range(4):
            told = ((0, 1), ((contract(after=after[:many]), ((SET,), (), ())),))
            self.assertEqual(obligations(told, 0), tuple(("after", c) for c in range(many)))

    def test_calls_ahead_of_after_in_the_order_of_the_items(self):
        clauses = (("each", MARKED), ("names", ALWAYS))
        body = ((call(1), SET, call(2)), (), ())
        units = ((contract(after=clauses[:1]), body), (contract(before=clauses), None),
                 (contract(before=clauses[:1], after=clauses, falls=(MARKED, 1)), None))
        wanted = (("call", 0, 0), ("call", 0, 1), ("call", 2, 0), ("after", 0))
        self.assertEqual(obligations(((0, 1), units), 0), wanted)

    def test_falls_behind_the_clauses_of_before_of_the_same_call(self):
        clauses = (("each", MARKED), ("names", ALWAYS))
        body = ((SET, call(0), call(0)), (), ())
        for falls, one in ((None, ()), ((MARKED, 2), ("falls",))):
            told = ((0, 1), ((contract(before=clauses, after=clauses[1:], falls=falls), body),))
            wanted = (("call", 1, 0), ("call", 1, 1), *((one[0], 1) for _ in one),
                      ("call", 2, 0), ("call", 2, 1), *((one[0], 2) for _ in one), ("after", 0))
            self.assertEqual(obligations(told, 0), wanted)

    def test_falls_of_another_unit_plays_no_part(self):
        units = ((contract(), ((call(1),), (), ())), (contract(falls=(MARKED, 1)), None))
        self.assertEqual(obligations(((0, 1), units), 0), ())
        units = ((contract(falls=(MARKED, 1)), ((call(1), call(0)), (), ())), (contract(), None))
        self.assertEqual(obligations(((0, 1), units), 0), (("falls", 1),))

    def test_calls_whose_guard_never_holds(self):
        before = (("names", ALWAYS),)
        told = ((0, 1), ((contract(before=before, falls=(MARKED, 1)),
                          ((call(0, guard=NEVER),), (), ())),))
        self.assertEqual(obligations(told, 0), (("call", 0, 0), ("falls", 0)))

    def test_against_the_words_of_the_document(self):
        chance = random.Random(140)
        for _ in range(200):
            told = some_library(chance, gaps=0)
            for unit in range(len(told[1])):
                self.assertEqual(obligations(told, unit), slow_obligations(told, unit))


class Pieces(unittest.TestCase):
    def asked(self, units, aim, table, answers=(), givens=NOTHING, value=0, shape=(0, 1)):
        told = (shape, units)
        self.assertIsNone(check_library(told))
        return pieces((told, 0, aim), (givens, table, answers, value))

    def test_walks(self):
        change = ("change", MARKED, 0, ((2, ALWAYS),))
        units = ((contract(after=(change,)), ((SET, FRONT, SET), (), ())),)
        self.assertEqual(self.asked(units, ("after", 0), TWO), ((2, -1, 1), 2))
        self.assertEqual(self.asked(units, ("after", 0), MANY), ((1, -1, 1), 2))
        self.assertEqual(self.asked(units, ("after", 0), ()), ((0, 0, 0), 2))

    def test_no_items(self):
        change = ("change", MARKED, 0, ((-3, ALWAYS), (1, ())))
        units = ((contract(after=(change,)), ((), (), ())),)
        self.assertEqual(self.asked(units, ("after", 0), TWO), ((), -3))

    def test_calls_that_are_not_made(self):
        change = ("change", MARKED, 0, ())
        after = (("change", MARKED, 0, ((3, ALWAYS),)),)
        units = ((contract(after=(change,)), ((SET, call(1, guard=NEVER), FRONT), (), ())),
                 (contract(after=after), None))
        self.assertEqual(self.asked(units, ("after", 0), TWO, (None,)), ((2, 0, -1), 0))

    def test_calls_that_are_not_bracketed(self):
        change = ("change", MARKED, 0, ())
        for after in ((), (("each", MARKED), ("change", MARKED, 1, ((3, ALWAYS),))),
                      (("change", ((("is", "m0", False),),), 0, ((3, ALWAYS),)),)):
            units = ((contract(after=(change,)), ((FRONT, call(1)), (), ())),
                     (contract(after=after), None))
            answer = ((), (), ((True,),) * 4)
            self.assertEqual(self.asked(units, ("after", 0), MANY, (answer,)), ((-1, 2), 0))

    def test_bracketed_calls(self):
        # The first bracket counts, and the answer's table plays no part.
        changes = (("change", MARKED, 1, ((1, ALWAYS),)), ("change", MARKED, 0, ((3, ALWAYS),)),
                   ("change", MARKED, 0, ((2, ALWAYS),)))
        change = ("change", MARKED, 0, ((-1, ALWAYS),))
        for after, wanted in ((changes, 3), (changes[::-1], 2), (changes[:1] + changes[2:], 2)):
            units = ((contract(after=(change,)), ((call(1), SET), (), ())),
                     (contract(after=after), None))
            for left in (TWO, ((True,), (False,))):
                found = self.asked(units, ("after", 0), TWO, (((), (), left),))
                self.assertEqual(found, ((wanted, 2 - sum(mark for mark, in left)), -1))

    def test_shares_are_read_with_what_is_passed_and_comes_back(self):
        literals = (("=", "x0", 0), ("<", "x1", "y0"), ("is", "p0", True), ("is", "q0", False))
        shares = tuple((number, ((one,),)) for number, one in zip((3, 2), literals))
        more = tuple((number, ((one,),)) for number, one in zip((3, 2), literals[2:]))
        for part, given, back, wanted in (
            (shares, (0, 4), (5, 0), 5), (shares, (1, 4), (5, 0), 2), (shares, (0, 5), (5, 0), 3),
            (more, (0, 4), (5, 0), 5),
        ):
            body = ((call(1, ("x0", "x1"), (True,)),), (), ())
            units = ((contract((2, 0), after=(("change", (), 0, ()),)), body),
                     (contract((2, 1), (2, 1), after=(("change", (), 0, part),)), None))
            answer = (back, (False,), TWO)
            found = self.asked(units, ("after", 0), TWO, (answer,), givens=(given, ()))
            self.assertEqual(found, ((wanted,), 0))

    def test_a_value(self):
        every = ((("=", "k0", "v0"),),)
        change = ("change", every, 1, ((1, ((("=", "v0", "y0"),),)), (-1, ((("=", "v0", "x0"),),))))
        put = ("up", ("x0",), (), (((), (("k0", "r0"), ("r0", "k0")), False),), ("r0",))
        units = ((contract((1, 0), (1, 0), after=(change,)),
                  ((call(1, ("x0",)), put, call(2, ("x0",))), ("n0",), ())),
                 (contract((1, 0), after=(change[:3] + (change[3][1:],),)), None),
                 (contract((1, 0)), None))
        table = ((3,), (7,))
        answers = (((), (), ((7,), (7,))), ((), (), ((9,), (9,))))
        for value, wanted in ((5, ((-1, 1, -1), -1)), (7, ((0, -1, -1), 1)), (9, ((0, 0, 2), 0)),
                              (3, ((0, 0, 0), 0))):
            found = self.asked(units, ("after", 0), table, answers, ((5,), ()), value, (1, 0))
            self.assertEqual(found, wanted)

    def test_falls(self):
        for by in (1, 2, 3):
            units = ((contract(falls=(MARKED, by)), ((FRONT, call(0), SET), (), ())),)
            self.assertEqual(self.asked(units, ("falls", 1), MANY), ((-1,), -by))
            self.assertEqual(self.asked(units, ("falls", 1), TWO), ((0,), -by))
        after = (("change", MARKED, 0, ((-2, ALWAYS),)),)
        units = ((contract(after=after, falls=(MARKED, 1)), ((call(0), call(0)), (), ())),)
        self.assertEqual(self.asked(units, ("falls", 0), MANY), ((), -1))
        self.assertEqual(self.asked(units, ("falls", 1), MANY, (((), (), MANY),)), ((-2,), -1))
        after = (("change", MARKED, 1, ((-2, ALWAYS),)),)
        units = ((contract(after=after, falls=(MARKED, 1)), ((call(0), call(0)), (), ())),)
        answer = ((), (), ((True,),) * 4)
        self.assertEqual(self.asked(units, ("falls", 1), MANY, (answer,)), ((1,), -1))

    def test_clauses_given_as_an_aim(self):
        clause = ("change", MARKED, 0, ((1, ((("is", "q0", True),),)),))
        units = ((contract(gives=(0, 1)), ((SET, FRONT), (), (True,))),)
        self.assertEqual(self.asked(units, ("clause", clause), TWO), ((2, -1), 1))
        units = ((contract(gives=(0, 1)), ((SET, FRONT), (), (False,))),)
        self.assertEqual(self.asked(units, ("clause", clause), TWO), ((2, -1), 0))

    def test_what_is_due_is_read_with_what_the_body_gives_back(self):
        shares = ((3, ((("=", "y0", "x0"), ("is", "q0", True)),)),)
        walk = ("up", ("x0",), (False,), (((), (("f0", True),), False),), ("r0", "f0"))
        units = ((contract((1, 0), (1, 1), after=(("change", (), 0, shares),)),
                  ((walk,), ("n0",), ("g0",))),)
        self.assertEqual(self.asked(units, ("after", 0), TWO, givens=((4,), ())), ((0,), 3))
        self.assertEqual(self.asked(units, ("after", 0), (), givens=((4,), ())), ((0,), 0))

    def test_against_the_words_of_the_document(self):
        chance = random.Random(143)
        seen = set()
        for question, told in runs_from_before(chance, 300, POOL):
            with self.subTest(question=question, told=told):
                wanted = slow_pieces(question, told)
                self.assertEqual(pieces(question, told), wanted)
                seen.add(sum(wanted[0]) == wanted[1])
        self.assertEqual(seen, {False, True})


if __name__ == "__main__":
    unittest.main()
