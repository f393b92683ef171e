"""Entering, columns and complete borders: [165] to [169], [201], [221], [241]."""

import random
import unittest

from anylength import columns as module
from anylength.errors import TooWide
from anylength.orders import count_extensions, count_orders, ranks
from anylength.questions import guessed, layout
from tests.short import (
    ALWAYS, ASCENDING, CARRY, CLEAR, CLEAR_BODY, CLIMB, FIRST, MARKED, MARKS, NEVER,
    OFTEN, SAME_MARK, SET, STEP, TAKE, TOP, UNMARKED, UNSET, asked, body, call, contract,
)
from tests.slow_rows import slow_columns, slow_complete, slow_cross, slow_enter, slow_entries
from tests.some import some_asked, some_border, some_guess
from tests.support import asked as twice

enter = twice(module.enter)
cross = twice(module.cross)
complete = twice(module.complete)
entries = twice(module.entries)
columns = twice(module.columns)

GIVEN = ((("is", "p0", True),),)
TRUE = ("names", ALWAYS)
FALSE = ("names", NEVER)


class Conditions(unittest.TestCase):
    """Each of the five conditions of [165], broken alone."""

    def test_names_clauses_of_before(self):
        clauses = (("names", ((("<", "x0", "x1"),),)), ("names", GIVEN))
        question = asked((1, 0), ("clause", FALSE), (contract((2, 1), before=clauses), body()))
        self.assertEqual(enter(question, (2, 5), (True,)), (1, ((2, 5), (True,))))
        self.assertIsNone(enter(question, (2, 2), (True,)))
        self.assertIsNone(enter(question, (2, 5), (False,)))

    def test_other_clauses_of_before_are_not_asked(self):
        clauses = tuple((kind, NEVER) for kind in ("each", "some"))
        question = asked((1, 0), ("clause", FALSE), (contract(before=clauses), body()))
        self.assertEqual(enter(question, (), ()), (1, ((), (False,))))

    def made(self, guard, after=(), aim=("clause", FALSE), gives=(1, 1)):
        called = contract((1, 1), gives, after=after)
        one = contract((1, 1), gives)
        return asked((1, 0), aim, (one, body(call(1, ("x0",), ("p0",), guard), keys=("n0",), bits=("g0",))),
                     (called, None))

    def test_names_clauses_of_calls_that_are_made(self):
        after = (("each", NEVER), ("names", ((("<", "x0", "y0"), ("is", "p0", True)),)),
                 ("names", ((("is", "q0", False),),)))
        question = self.made((), after)
        self.assertEqual(enter(question, (3, 4), (True, False)), (1, ((3, 4), (True, False))))
        for keys, bits in (((3, 3), (True, False)), ((3, 4), (True, True)), ((3, 4), (False, False))):
            self.assertIsNone(enter(question, keys, bits))

    def test_names_clauses_of_before_of_called_units_are_not_asked(self):
        called = contract(before=(FALSE, ("each", NEVER)))
        question = asked((1, 0), ("clause", FALSE), (contract(), body(call(1))), (called, None))
        self.assertEqual(enter(question, (), ()), (1, ((), ())))

    def test_calls_that_are_not_made_make_zero_and_false(self):
        # The names clause of the called unit would never hold, but it is not asked.
        question = self.made(GIVEN[0], (FALSE,))
        self.assertEqual(enter(question, (3, 0), (False, False)), (1, ((3, 0), (False, False))))
        self.assertIsNone(enter(question, (3, 1), (False, False)))
        self.assertIsNone(enter(question, (3, 0), (False, True)))
        self.assertIsNone(enter(question, (3, 0), (True, False)))

    def test_the_guard_of_the_call_that_is_asked_about(self):
        called = contract(before=(("each", MARKED),))
        for aim, unit in ((("call", 1, 0), 1), (("falls", 1), 0)):
            own = contract((0, 1), before=(("each", MARKED),), falls=(MARKED, 1))
            passed = ("p0",) if unit == 0 else ()
            items = (SET, call(unit, (), passed, GIVEN[0]))
            question = asked((0, 1), aim, (own, body(*items)), (called, None))
            self.assertIsNotNone(enter(question, (), (True,)))
            self.assertIsNone(enter(question, (), (False,)))

    def test_the_guard_of_another_call_is_no_condition(self):
        question = self.made(GIVEN[0], aim=("clause", ("names", NEVER)))
        self.assertIsNotNone(enter(question, (3, 0), (False, False)))
        self.assertIsNotNone(enter(question, (3, 7), (True, True)))

    def test_a_names_clause_of_the_question_is_broken(self):
        equal = ("names", ((("=", "x0", "y0"), ("is", "q0", True)),))
        question = self.made((), aim=("clause", equal))
        self.assertIsNone(enter(question, (3, 3), (True, True)))
        self.assertEqual(enter(question, (3, 4), (True, True)), (1, ((3, 4), (True, True))))
        self.assertIsNotNone(enter(question, (3, 3), (False, False)))
        after = asked((1, 0), ("after", 0), (contract((1, 0), (1, 0), after=(("names", ((("=", "x0", "y0"),),)),)),
                                             body(CLIMB, keys=("n0",))))
        self.assertIsNone(enter(after, (2, 2), ()))
        self.assertEqual(enter(after, (2, 1), ()), (1, ((2, 1, 0), ())))

    def test_a_names_clause_of_before_is_read_with_what_is_passed(self):
        called = contract((1, 1), before=(("names", ((("=", "x0", 0), ("is", "p0", True)),)),))
        items = (TAKE, call(1, ("n0",), ("p0",)))
        question = asked((1, 0), ("call", 1, 0), (contract((0, 1)), body(*items)), (called, None))
        self.assertIsNone(enter(question, (0,), (True,)))
        self.assertEqual(enter(question, (4,), (True,)), (1, ((4, 0), (True,))))
        self.assertEqual(enter(question, (0,), (False,)), (1, ((0, 0), (False,))))

    def test_results_of_walks_downwards(self):
        walk = ("down", (0, 0), (False,), (), ("r1", "f0", "r1"))
        question = asked((1, 0), ("clause", FALSE), (contract(), body(walk)))
        self.assertEqual(guessed(question)[0][0][-2:], (("item", 0, "r0"), ("item", 0, "r1")))
        self.assertEqual(enter(question, (5, 5, 9, 5), (True, True)), (1, ((5, 5, 9, 5), (True, True))))
        for keys, bits in (((5, 4, 9, 5), (True, True)), ((4, 5, 9, 5), (True, True)),
                           ((5, 5, 5, 9), (True, True)), ((5, 5, 9, 5), (True, False))):
            self.assertIsNone(enter(question, keys, bits))

    def test_several_walks_downwards_and_upwards(self):
        down = ("down", (0,), (), (), ("r0",))
        up = ("up", ("n0",), (True,), (), ("r0",))
        question = asked((1, 0), ("clause", FALSE), (contract(), body(down, up, down)))
        # n0, n1, n2, and the registers of the items 0 and 2; that of item 1 begins with n0.
        self.assertEqual(enter(question, (4, 6, 5, 4, 5), ()), (1, ((4, 6, 5, 4, 4, 5), (True,))))
        self.assertIsNone(enter(question, (4, 6, 5, 5, 4), ()))


class FirstBorders(unittest.TestCase):
    def test_watches_are_at_their_beginning(self):
        clauses = (("next", ((("<", "k0", "K0"), ("is", "m0", True)),)), ("some", MARKED))
        question = asked((1, 1), ("clause", ("pairs", ASCENDING)),
                         (contract(before=clauses), body(call(1))), (contract(after=clauses), None))
        self.assertEqual(len(layout(question)[1]), 8)
        self.assertEqual(enter(question, (), ()), (1, ((0, 0, 0), (False,) * 8)))

    def test_walks_upwards_begin_with_their_sources(self):
        walk = ("up", ("x0", 0), (True, "p0"), (), ())
        question = asked((1, 0), ("clause", FALSE), (contract((1, 1)), body(walk)))
        self.assertEqual(enter(question, (8,), (True,)), (1, ((8, 8, 0), (True, True, True))))
        self.assertEqual(enter(question, (8,), (False,)), (1, ((8, 8, 0), (False, True, False))))

    def test_seen(self):
        units = ((contract((1, 0)), body(TAKE)),)
        question = asked((1, 1), ("seen", ("k0", "x0", "w0"), ("u0",)), *units)
        self.assertEqual(enter(question, (5, 6), ()), (0, ((5, 6, 0, 0, 0), (False, False))))
        question = asked((1, 1), ("seen", ("x0",), ()), *units)
        self.assertEqual(enter(question, (5, 6), ()), (0, ((5, 6, 0), ())))

    def test_same(self):
        one = contract((1, 1), (1, 0), before=(("names", ((("!=", "x0", 0),),)),))
        two = contract((1, 1), (1, 0), before=(("names", GIVEN), ("next", ASCENDING)))
        units = ((one, body(CLIMB, keys=("n0",))), (two, body(TAKE, TAKE, keys=("n1",))))
        question = asked((1, 0), ("same", 1), *units)
        # x0, n0 to n2, and the kept key and three registers; hit is the last bit.
        keys = (3, 7, 8, 7)
        self.assertEqual(enter(question, keys, (True,)), (1, (keys + (0, 0, 0, 0), (True, False, False))))
        self.assertEqual(enter(question, (3, 7, 7, 9), (True,)),
                         (1, ((3, 7, 7, 9, 0, 0, 0, 0), (True, False, True))))
        self.assertIsNone(enter(question, (0, 7, 8, 7), (True,)))
        self.assertIsNone(enter(question, keys, (False,)))

    def test_same_with_other_bits_given_back(self):
        units = tuple((contract((0, 1), (0, 1)), body(bits=(bit,))) for bit in ("p0", True))
        question = asked((1, 0), ("same", 1), *units)
        self.assertEqual(enter(question, (), (True,)), (1, ((), (True, False))))
        self.assertEqual(enter(question, (), (False,)), (1, ((), (False, True))))

    def test_same_with_walks_downwards_in_the_other_one(self):
        # The other one calls its names n0 and n1; its walk begins with its own n0.
        first = ("down", (0,), (), (), ("r0",))
        then = ("up", ("n0",), (), (), ("r0",))
        units = ((contract(), body(TAKE)), (contract(), body(first, then)))
        question = asked((1, 0), ("same", 1), *units)
        self.assertEqual(guessed(question)[0][0][-1], ("item", 1, "r0"))
        self.assertEqual(enter(question, (3, 5, 6, 5), ()), (1, ((3, 5, 6, 0, 5, 5), (False,))))
        self.assertIsNone(enter(question, (3, 5, 6, 3), ()))


class Weights(unittest.TestCase):
    """The weight at entering."""

    def test_no_sum(self):
        for aim in (("clause", FALSE), ("clause", ("each", NEVER)), ("clause", ("pairs", NEVER))):
            self.assertEqual(enter(asked((0, 1), aim, (contract(), body(SET))), (), ())[0], 1)

    def test_what_is_due(self):
        shares = ((2, ((("is", "q0", True),),)), (-3, GIVEN))
        units = ((contract((0, 1), (0, 1), after=(("change", MARKED, 0, shares),)), body(FIRST, bits=("g0",))),)
        question = asked((0, 1), ("after", 0), *units)
        for bits, due in (((False, False), 0), ((True, False), -3), ((False, True), 2), ((True, True), -1)):
            self.assertEqual(enter(question, (), bits)[0], -due)

    def test_the_value(self):
        shares = ((1, ((("=", "x0", "v0"),),)), (-2, ((("<", "v0", "x0"),),)))
        question = asked((1, 0), ("clause", ("change", OFTEN, 1, shares)), (contract((1, 0)), body()))
        for keys, due in (((3, 3), 1), ((3, 2), -2), ((3, 4), 0), ((10 ** 30 - 1, 10 ** 30 - 2), -2)):
            self.assertEqual(enter(question, keys, ()), (-due, (keys, ())))

    def bracketed(self, guard, after, aim=("clause", ("change", OFTEN, 1, ()))):
        called = contract((1, 1), (1, 1), after=after)
        return asked((1, 0), aim, (contract((1, 1)), body(call(1, ("x0",), ("p0",), guard))), (called, None))

    def test_brackets(self):
        shares = ((3, ((("=", "y0", "v0"),),)), (1, ((("is", "q0", True), ("=", "x0", "v0")),)))
        after = (("change", OFTEN, 1, shares), ("change", OFTEN, 1, ((-3, ALWAYS),)))
        question = self.bracketed((), after)
        # x0, n0 and v0; p0 and g0.
        self.assertEqual(enter(question, (5, 6, 6), (True, True)), (3, ((5, 6, 6), (True, True))))
        self.assertEqual(enter(question, (6, 6, 6), (True, True))[0], 4)
        self.assertEqual(enter(question, (6, 6, 6), (True, False))[0], 3)
        self.assertEqual(enter(question, (6, 6, 7), (True, True))[0], 0)
        question = self.bracketed(GIVEN[0], after)
        self.assertEqual(enter(question, (6, 6, 6), (True, True))[0], 4)
        self.assertEqual(enter(question, (6, 0, 0), (False, False))[0], 0)

    def test_brackets_have_the_same_formula_and_as_many_values(self):
        for after in ((), (("change", OFTEN + ALWAYS, 1, ((3, ALWAYS),)),),
                      (("change", ((("=", "k0", 0),),), 0, ((3, ALWAYS),)),)):
            question = self.bracketed((), after)
            self.assertEqual(enter(question, (6, 6, 6), (True, True))[0], 0)
        plain = (("change", ((("=", "k0", 0),),), 0, ((3, ALWAYS),)),)
        question = self.bracketed((), plain, ("clause", ("change", plain[0][1], 0, ((1, ALWAYS),))))
        self.assertEqual(enter(question, (6, 6), (True, True))[0], 2)
        question = self.bracketed((), plain, ("clause", ("change", plain[0][1], 1, ())))
        self.assertEqual(enter(question, (6, 6, 6), (True, True))[0], 0)

    def test_falls(self):
        for by in (1, 2, 3):
            units = ((STEP, None), (CLEAR[:4] + ((MARKED, by),), CLEAR_BODY))
            question = asked((0, 1), ("falls", 1), *units, unit=1)
            # STEP has given back True where CLEAR calls itself, so that its bracket is -1.
            self.assertEqual(enter(question, (), (True,)), (by - 1, ((), (True,))))
            self.assertIsNone(enter(question, (), (False,)))

    def test_brackets_ahead_of_falls(self):
        own = contract((0, 1), after=(("change", MARKED, 0, ((-2, GIVEN),)),), falls=(MARKED, 1))
        items = (call(0, (), (True,)), SET, call(0, (), ("p0",)), call(0, (), ("p0",)))
        for i, weights in ((0, (1, 1)), (2, (-1, -1)), (3, (-1, -3))):
            question = asked((0, 1), ("falls", i), (own, (items, (), ())))
            self.assertEqual([enter(question, (), (bit,))[0] for bit in (False, True)], list(weights))

    def test_seen_and_same(self):
        units = ((STEP, body(FIRST, bits=("g0",))),) * 2
        self.assertEqual(enter(asked((0, 1), ("seen", (), ("q0",)), *units), (), (True,))[0], 0)
        self.assertEqual(enter(asked((0, 1), ("same", 1), *units), (), (True, False))[0], 1)


class Rows(unittest.TestCase):
    """Columns: the turns of the parts."""

    def test_a_walk_upwards(self):
        question = asked((1, 0), ("clause", FALSE), (contract((1, 0)), body(CARRY)))
        # x0, n0 and r0.
        self.assertEqual(cross(question, ((4, 9, 4), ()), (7,), ()), (0, ((4, 9, 7), ())))
        question = asked((1, 0), ("clause", ("each", ((("<", "k0", "w0"),),))), (contract((1, 0)), body(CARRY)))
        self.assertEqual(cross(question, ((4, 9, 4), (False,)), (7,), ()), (0, ((4, 9, 7), (False,))))
        self.assertEqual(cross(question, ((4, 9, 7), (False,)), (5,), ()), (0, ((4, 9, 5), (True,))))

    def test_a_walk_downwards(self):
        down = ("down", (0,), (), (((("<", "r0", "k0"),), (("r0", "k0"),), False),), ("r0",))
        question = asked((1, 0), ("clause", FALSE), (contract(), body(down)))
        # n0 and the register; guessed are the field and the register behind the row.
        self.assertEqual(cross(question, ((7, 7), ()), (7, 3), ()), (0, ((7, 3), ())))
        self.assertEqual(cross(question, ((7, 7), ()), (7, 0), ()), (0, ((7, 0), ())))
        self.assertIsNone(cross(question, ((7, 7), ()), (6, 3), ()))
        self.assertIsNone(cross(question, ((7, 7), ()), (7, 8), ()))
        self.assertIsNone(cross(question, ((7, 6), ()), (7, 3), ()))

    def test_flags_of_walks_downwards(self):
        down = ("down", (), (False,), (((("is", "m0", True),), (("f0", True), ("m0", False)), False),), ())
        question = asked((0, 1), ("clause", ("each", UNMARKED)), (contract(), body(down)))
        # The flag and hit; guessed are the mark and the flag behind the row.
        wanted = {(False, False, False): (False, False), (True, True, False): (False, False),
                  (True, True, True): (True, False), (True, False, True): (True, False)}
        for flag in (False, True):
            for mark in (False, True):
                for behind in (False, True):
                    found = cross(question, ((), (flag, False)), (), (mark, behind))
                    bits = wanted.get((flag, mark, behind))
                    self.assertEqual(found, None if bits is None else (0, ((), bits)))

    def test_parts_one_behind_another(self):
        # What one walk leaves the next one finds; before reads found, the goal what is left.
        swap = ("up", (), (), (((), (("k0", "k1"), ("k1", "k0")), False),), ())
        lift = ("up", ("x0",), (), (((("<", "k0", "r0"),), (("k0", "r0"),), False),), ())
        for items, wanted in (((swap, lift), (9, 4)), ((lift, swap), (6, 9)), ((swap, swap), (4, 6))):
            for keys in ((9, 4), (6, 9), (4, 6)):
                told = contract((1, 0), before=(("each", ((("<", "k0", "k1"),),)),))
                formula = ((("=", "k0", "x0"), ("<", "w0", "w1")), (("=", "k1", "x0"),))
                question = asked((2, 0), ("clause", ("each", formula)), (told, body(*items)))
                many = len(layout(question)[0])
                border = ((6,) * many, (False,))
                left = list(keys)
                for item in items:
                    left = left[::-1] if item == swap else [max(left[0], 6), left[1]]
                found = cross(question, border, keys, ())
                if keys[0] >= keys[1]:
                    self.assertIsNone(found)
                else:
                    hit = not (left[0] == 6 or left[1] == 6)
                    self.assertEqual(found, (0, (border[0], (hit,))))

    def test_names_stay(self):
        walk = ("up", (0,), (), (((), (("r0", "n0"), ("k0", "x0")), False),), ("r0",))
        question = asked((1, 1), ("clause", ("change", OFTEN, 1, ())), (contract((1, 1)), body(CLIMB, walk)))
        # x0, n0, n1, v0, and two registers; p0.
        border = ((1, 2, 3, 4, 5, 6), (True,))
        self.assertEqual(cross(question, border, (9,), (False,)), (0, ((1, 2, 3, 4, 9, 2), (True,))))

    def test_a_call_that_is_made(self):
        after = (("each", ((("<", "w0", "k0"), ("<=", "x0", "k0"), ("is", "q0", True)),)), ("some", MARKED))
        called = contract((1, 0), (0, 1), after=after)
        one = (contract((1, 0), (0, 1)), body(call(1, ("x0",)), SET, bits=("g0",)))
        question = asked((1, 1), ("clause", ("each", ((("=", "k0", "w0"),),))), one, (called, None))
        # x0; g0, seen and hit. Guessed are found and the ghost.
        border = ((5,), (True, False, False))
        self.assertEqual(cross(question, border, (3, 5), (False, False)), (0, ((5,), (True, False, True))))
        self.assertEqual(cross(question, border, (3, 6), (True, True)), (0, ((5,), (True, True, True))))
        self.assertIsNone(cross(question, border, (5, 5), (True, True)))
        self.assertIsNone(cross(question, border, (3, 4), (True, True)))
        self.assertIsNone(cross(question, ((5,), (False, False, False)), (3, 6), (True, True)))
        seen = ((5,), (True, True, False))
        self.assertEqual(cross(question, seen, (3, 5), (False, False)), (0, ((5,), (True, True, True))))

    def test_a_call_that_is_not_made(self):
        after = (("each", NEVER), ("some", MARKED), ("next", NEVER))
        one = (contract((0, 1)), body(call(1, guard=GIVEN[0])))
        question = asked((1, 1), ("clause", ("each", ASCENDING[:0])), one, (contract(after=after), None))
        # p0, seen, begun and hit stay, though the watches would see, refuse and begin.
        for told in ((False, False, False, False), (False, True, True, False)):
            behind = told[:3] + (True,)
            self.assertEqual(cross(question, ((), told), (4, 4), (True, True)), (0, ((), behind)))
            self.assertIsNone(cross(question, ((), told), (4, 5), (True, True)))
            self.assertIsNone(cross(question, ((), told), (4, 4), (True, False)))

    def test_the_ghost_of_a_call_behind_a_walk(self):
        # A call that is not made leaves the row as the walk has left it.
        one = (contract((0, 1)), body(SET, call(1, guard=GIVEN[0]), UNSET))
        question = asked((0, 1), ("clause", ("each", MARKED)), one, (contract(after=(("each", SAME_MARK),)), None))
        for bit in (False, True):
            border = ((), (bit, False))
            self.assertIsNone(cross(question, border, (), (False, False)))
            self.assertEqual(cross(question, border, (), (False, True)), (0, ((), (bit, True))))

    def test_watches_of_before_refuse(self):
        told = contract((1, 0), before=(("next", ASCENDING), ("each", ((("!=", "k0", "x0"),),)), ("some", MARKED)))
        question = asked((1, 1), ("clause", FALSE), (told, body(SET)))
        # x0 and the kept key; begun and seen.
        self.assertEqual(cross(question, ((4, 0), (False, False)), (3,), (False,)), (0, ((4, 3), (True, False))))
        self.assertEqual(cross(question, ((4, 3), (True, False)), (3,), (True,)), (0, ((4, 3), (True, True))))
        self.assertIsNone(cross(question, ((4, 3), (True, False)), (2,), (True,)))
        self.assertIsNone(cross(question, ((4, 3), (True, False)), (4,), (True,)))

    def test_a_goal_that_refuses(self):
        question = asked((0, 1), ("clause", ("some", MARKED)), (contract(), body()))
        self.assertEqual(cross(question, ((), ()), (), (False,)), (0, ((), ())))
        self.assertIsNone(cross(question, ((), ()), (), (True,)))

    def test_the_goal_of_a_call_reads_the_row_that_is_left(self):
        clause = ("next", ((("<", "k0", "K0"), ("<", "x0", "K0")),))
        items = (("up", (), (), (((), (("k0", "k1"),), False),), ()), call(1, ("x1",)))
        units = ((contract((2, 0)), body(*items)), (contract((1, 0), before=(clause,)), None))
        question = asked((2, 0), ("call", 1, 0), *units)
        # x0, x1 and the kept key; hit and begun.
        first = cross(question, ((9, 3, 0), (False, False)), (1, 5), ())
        self.assertEqual(first, (0, ((9, 3, 5), (False, True))))
        self.assertEqual(cross(question, first[1], (1, 6), ()), (0, ((9, 3, 6), (False, True))))
        self.assertEqual(cross(question, first[1], (7, 5), ()), (0, ((9, 3, 0), (True, False))))
        self.assertEqual(cross(question, ((9, 3, 1), (False, True)), (1, 2), ())[1][1], (True, False))

    def test_picked_rows_of_pairs(self):
        question = asked((1, 0), ("clause", ("pairs", ((("<=", "w0", "K0"),),))), (contract(), body()))
        # The kept key; hit and held; guessed is whether the row is picked.
        start = ((0,), (False, False))
        self.assertEqual(cross(question, start, (5,), (False,)), (0, start))
        held = ((5,), (False, True))
        self.assertEqual(cross(question, start, (5,), (True,)), (0, held))
        self.assertEqual(cross(question, held, (6,), (False,)), (0, held))
        self.assertEqual(cross(question, held, (4,), (False,)), (0, ((0,), (True, False))))
        self.assertIsNone(cross(question, held, (6,), (True,)))
        self.assertIsNone(cross(question, ((0,), (True, False)), (6,), (True,)))
        self.assertEqual(cross(question, ((0,), (True, False)), (6,), (False,)), (0, ((0,), (True, False))))

    def test_held_rows_of_seen(self):
        units = ((contract(), body(SET)),)
        question = asked((1, 1), ("seen", ("k0",), ("u0", "m0")), *units)
        start = ((0,), (False, False, False))
        self.assertEqual(cross(question, start, (5,), (False, False)), (0, start))
        held = ((5,), (True, False, True))
        self.assertEqual(cross(question, start, (5,), (False, True)), (0, held))
        self.assertEqual(cross(question, held, (7,), (True, False)), (0, held))
        self.assertIsNone(cross(question, held, (7,), (True, True)))
        swapped = asked((1, 1), ("seen", ("k0", "w0"), ("m0", "u0")), *units)
        start = ((0, 0), (False, False, False))
        self.assertEqual(cross(swapped, start, (5,), (False, True)), (0, ((5, 5), (True, True, False))))

    def test_same_lays_now_aside(self):
        half = ("up", (), (), (((("=", "k0", 0),), (("m0", True),), False),), ())
        for items, others in (((SET,), (half,)), ((half,), (SET,)), ((SET,), ()), ((), (SET,)),
                              ((SET, UNSET), (UNSET,)), ((UNSET, SET), (half, SET)), ((), ())):
            units = ((contract(), body(*items)), (contract(), body(*others)))
            question = asked((1, 1), ("same", 1), *units)
            border = ((), (False,))
            for key in (0, 3):
                for mark in (False, True):
                    ends = []
                    for some in (items, others):
                        end = mark
                        for item in some:
                            end = item == SET or (item == half and (key == 0 or end))
                        ends.append(end)
                    wanted = (0, ((), (ends[0] != ends[1],)))
                    self.assertEqual(cross(question, border, (key,), (mark,)), wanted)
                    self.assertEqual(cross(question, ((), (True,)), (key,), (mark,))[1], ((), (True,)))

    def test_same_reads_the_names_of_the_other_one(self):
        # Both write their own n0 into each row.
        write = ("up", (), (), (((), (("k0", "n0"),), False),), ())
        units = ((contract(), body(CLIMB, write)), (contract(), body(TAKE, write)))
        question = asked((1, 0), ("same", 1), *units)
        # n0, n1 and two registers.
        self.assertEqual(cross(question, ((5, 5, 0, 0), (False,)), (2,), ()), (0, ((5, 5, 2, 2), (False,))))
        self.assertEqual(cross(question, ((5, 6, 3, 0), (False,)), (2,), ()), (0, ((5, 6, 3, 2), (True,))))

    def test_borders_that_no_run_reaches_and_long_keys(self):
        question = (TOP, 0, ("after", 0))
        great = 10 ** 30 - 1
        self.assertEqual(cross(question, ((great - 1, great - 2), (True,)), (great,), ()),
                         (0, ((great - 1, great), (True,))))
        self.assertEqual(cross(question, ((great, great - 2), (False,)), (great - 1,), ()),
                         (0, ((great, great - 1), (False,))))
        self.assertTrue(complete(question, ((great, great), (True,))))
        self.assertFalse(complete(question, ((great, great - 1), (True,))))
        self.assertEqual(enter(question, (great,), ()), (1, ((great, 0), (False,))))
        self.assertIsNone(cross((MARKS, 1, ("after", 0)), ((), (False, False)), (), (True, True, True)))


class ColumnWeights(unittest.TestCase):
    def test_no_sum(self):
        question = asked((0, 1), ("clause", ("each", UNMARKED)), (contract(), body(SET)))
        self.assertEqual(cross(question, ((), (False,)), (), (False,)), (0, ((), (True,))))

    def test_walks(self):
        for items, weights in (((SET,), (1, 0)), ((UNSET,), (0, -1)), ((SET, UNSET), (0, -1)),
                               ((UNSET, SET), (1, 0)), ((), (0, 0))):
            question = asked((0, 1), ("clause", ("change", MARKED, 0, ())), (contract(), body(*items)))
            for mark in (False, True):
                self.assertEqual(cross(question, ((), ()), (), (mark,)), (weights[mark], ((), ())))

    def test_the_value(self):
        walk = ("up", (), (), (((), (("k0", "x0"),), False),), ())
        question = asked((1, 0), ("clause", ("change", OFTEN, 1, ())), (contract((1, 0)), body(walk)))
        for found, value, weight in ((3, 5, 1), (5, 5, 0), (3, 3, -1), (3, 4, 0)):
            self.assertEqual(cross(question, ((5, value), ()), (found,), ()), (weight, ((5, value), ())))

    def counted(self, after, guard=()):
        units = ((contract((0, 1)), body(call(1, guard=guard))), (contract(after=after), None))
        return asked((0, 1), ("clause", ("change", MARKED, 0, ())), *units)

    def test_calls(self):
        for after, weights in (((), (0, 1, -1, 0)), ((("change", UNMARKED, 0, ()),), (0, 1, -1, 0)),
                               ((("change", MARKED, 0, ()),), (0, 0, 0, 0)),
                               ((("change", MARKED, 1, ()),), (0, 1, -1, 0))):
            question = self.counted(after)
            found = [cross(question, ((), (True,)), (), marks)[0]
                     for marks in ((False, False), (False, True), (True, False), (True, True))]
            self.assertEqual(tuple(found), weights)

    def test_calls_that_are_not_made(self):
        for after in ((), (("change", MARKED, 0, ((3, ALWAYS),)),)):
            question = self.counted(after, GIVEN[0])
            self.assertEqual(enter(question, (), (False,))[0], 0)
            for mark in (False, True):
                self.assertEqual(cross(question, ((), (False,)), (), (mark, mark)), (0, ((), (False,))))
                self.assertIsNone(cross(question, ((), (False,)), (), (mark, not mark)))

    def test_several_parts(self):
        units = ((contract(), body(SET, call(1), UNSET)), (contract(), None))
        question = asked((0, 1), ("clause", ("change", MARKED, 0, ())), *units)
        for mark, ghost in ((False, False), (False, True), (True, False), (True, True)):
            self.assertEqual(cross(question, ((), ()), (), (mark, ghost))[0], -mark)
        units = ((contract(), body(SET, call(1), UNSET)), (contract(after=(("change", MARKED, 0, ()),)), None))
        question = asked((0, 1), ("clause", ("change", MARKED, 0, ())), *units)
        for mark, ghost in ((False, False), (False, True), (True, False), (True, True)):
            self.assertEqual(cross(question, ((), ()), (), (mark, ghost))[0], 1 - mark - ghost)

    def test_falls_counts_only_the_items_ahead(self):
        own = contract(falls=(MARKED, 1))
        question = asked((0, 1), ("falls", 1), (own, body(UNSET, call(0), SET)))
        self.assertEqual(guessed(question)[1], ((), (("found", "m0"),)))
        self.assertEqual([cross(question, ((), ()), (), (mark,))[0] for mark in (False, True)], [0, -1])
        self.assertEqual(enter(question, (), ()), (1, ((), ())))


class Complete(unittest.TestCase):
    """Each condition of [167], broken alone."""

    def test_walks_upwards(self):
        walk = ("up", (0, 0), (False,), (), ("r1", "f0"))
        question = asked((1, 0), ("clause", FALSE), (contract(), body(walk)))
        # n0 and two registers; g0 and the flag.
        self.assertTrue(complete(question, ((5, 9, 5), (True, True))))
        self.assertFalse(complete(question, ((5, 5, 9), (True, True))))
        self.assertFalse(complete(question, ((5, 9, 5), (True, False))))

    def test_walks_downwards(self):
        walk = ("down", ("x0", 0), ("p0", True), (), ("r0",))
        question = asked((1, 0), ("clause", FALSE), (contract((1, 1)), body(walk)))
        # x0, n0 and two registers; p0 and two flags. The result is asked at entering only.
        self.assertTrue(complete(question, ((4, 9, 4, 0), (False, False, True))))
        for keys, bits in (((4, 9, 4, 1), (False, False, True)), ((4, 9, 5, 0), (False, False, True)),
                           ((4, 9, 4, 0), (False, True, True)), ((4, 9, 4, 0), (False, False, False))):
            self.assertFalse(complete(question, (keys, bits)))

    def test_watches_of_before(self):
        told = contract(before=(("some", MARKED), ("next", ASCENDING), ("each", MARKED)))
        question = asked((1, 1), ("clause", FALSE), (told, body()))
        for begun in (False, True):
            self.assertTrue(complete(question, ((7,), (True, begun))))
            self.assertFalse(complete(question, ((7,), (False, begun))))

    def test_watches_of_calls(self):
        called = contract(after=(("next", ASCENDING), ("some", MARKED), ("some", UNMARKED)))
        question = asked((1, 1), ("clause", FALSE), (contract((0, 1)), body(call(1, guard=GIVEN[0]))), (called, None))
        # p0, begun and twice seen.
        self.assertTrue(complete(question, ((7,), (True, False, True, True))))
        self.assertFalse(complete(question, ((7,), (True, True, False, True))))
        self.assertFalse(complete(question, ((7,), (True, True, True, False))))
        self.assertTrue(complete(question, ((7,), (False, True, False, False))))

    def test_goals(self):
        for clause, bits, wanted in (
            (("each", MARKED), (True,), True), (("each", MARKED), (False,), False),
            (("next", NEVER), (True, False), True), (("next", NEVER), (False, True), False),
            (("pairs", NEVER), (True, False), True), (("pairs", NEVER), (False, True), False),
            (("some", MARKED), (), True), (("names", NEVER), (), True),
            (("change", MARKED, 0, ()), (), True),
        ):
            question = asked((0, 1), ("clause", clause), (contract(), body()))
            self.assertIs(complete(question, ((), bits)), wanted)

    def test_seen_and_same(self):
        units = ((contract(), body(SET)),) * 2
        seen = asked((0, 1), ("seen", (), ("m0",)), *units)
        for held in (False, True):
            for bit in (False, True):
                self.assertIs(complete(seen, ((), (held, bit))), held)
        self.assertTrue(complete(asked((0, 1), ("seen", (), ()), *units), ((), ())))
        for hit in (False, True):
            self.assertIs(complete(asked((0, 1), ("same", 1), *units), ((), (hit,))), hit)

    def test_same_asks_all_walks(self):
        down = ("down", ("n0",), (), (), ())
        units = ((contract(), body(CLIMB)), (contract(), body(TAKE, down)))
        question = asked((1, 0), ("same", 1), *units)
        # n0, n1, two registers of walks upwards, and one that begins with n1.
        self.assertTrue(complete(question, ((3, 4, 3, 4, 4), (True,))))
        for keys in ((3, 4, 4, 4, 4), (3, 4, 3, 3, 4), (3, 4, 3, 4, 3)):
            self.assertFalse(complete(question, (keys, (True,))))


class EntriesAndColumns(unittest.TestCase):
    """Entries and columns: all of them, each once, ascending, and their limits."""

    def test_entries_of_the_examples(self):
        self.assertEqual(entries((TOP, 0, ("after", 0))), (((0, 0), (False,), 1), ((1, 0), (False,), 1)))
        found = entries((MARKS, 0, ("after", 0)))
        self.assertEqual(found, (((), (False, False), 0), ((), (True, False), 1)))
        self.assertEqual(entries(asked((0, 1), ("clause", TRUE), (contract(), body()))), ())

    def test_the_limit_of_entries(self):
        question = asked((1, 0), ("clause", FALSE), (contract((2, 1)), body(CLIMB)))
        number = count_orders(3) * 2
        for limit in (number, number + 1, 10000):
            self.assertEqual(len(entries(question, limit=limit)), number)
        for limit in (number - 1, 0):
            with self.assertRaises(TooWide) as caught:
                entries(question, limit=limit)
            self.assertEqual(caught.exception.number, number)
        self.assertEqual(len(entries(question)), number)

    def test_the_limit_of_entries_that_is_not_told(self):
        down = ("down", (0, 0), (False,), (), ())
        question = asked((1, 0), ("clause", FALSE), (contract((2, 0)), body(down, down)))
        number = count_orders(6) * 4
        with self.assertRaises(TooWide) as caught:
            entries(question)
        self.assertEqual(caught.exception.number, number)

    def test_entries_near_the_limit(self):
        # x0, x1, three names and one register; the results are the register, and names of no walk.
        down = ("down", (0,), (), (), ("r0",))
        units = ((contract((2, 0)), body(down, CLIMB, CLIMB)),)
        found = entries(asked((1, 0), ("clause", FALSE), *units))
        self.assertEqual(len(found), count_orders(5))
        self.assertTrue(all(keys[2] == keys[5] for keys, _, _ in found))

    def test_nothing_is_guessed(self):
        question = asked((0, 1), ("clause", FALSE), (contract(), body()))
        self.assertEqual(entries(question, limit=1), (((), (), 1),))
        with self.assertRaises(TooWide) as caught:
            entries(question, limit=0)
        self.assertEqual(caught.exception.number, 1)

    def test_the_limit_of_columns(self):
        question = asked((1, 1), ("clause", FALSE), (contract((2, 0)), body(CLIMB, SET)))
        for keys, different in (((4, 4, 0, 4), 1), ((1, 2, 3, 4), 4), ((0, 0, 0, 0), 0), ((9, 7, 9, 0), 2)):
            number = (2 * different + 2) * 2
            border = (keys, ())
            self.assertEqual(number, count_extensions(ranks(keys), 1) * 2)
            self.assertEqual(len(columns(question, border, limit=number)), number)
            with self.assertRaises(TooWide) as caught:
                columns(question, border, limit=number - 1)
            self.assertEqual(caught.exception.number, number)

    def test_the_limit_of_columns_that_is_not_told(self):
        units = ((contract((2, 0)), body(call(1), call(1))), (contract(), None))
        question = asked((2, 0), ("clause", FALSE), *units)
        number = count_extensions((1, 2), 6)
        self.assertGreater(number, 10000)
        with self.assertRaises(TooWide) as caught:
            columns(question, ((3, 5), ()))
        self.assertEqual(caught.exception.number, number)

    def test_the_column_that_is_told_of(self):
        # A greater key is taken, and greater than the result that was guessed: this cannot end well.
        question = (TOP, 0, ("after", 0))
        self.assertEqual(layout(question), ((("name", "n0"), ("item", 0, "r0")), (("goal", "hit"),)))
        self.assertIn(((1, 1, 2), (), 0, ((1, 2), (True,))), columns(question, ((1, 1), (False,))))
        self.assertFalse(complete(question, ((1, 2), (True,))))

    def test_the_order_the_bits_the_weight_and_the_picture(self):
        walk = ("up", (), (), (((("is", "m0", True),), (("k0", "x0"),), False),), ())
        question = asked((1, 1), ("clause", ("change", OFTEN, 1, ())), (contract((1, 0)), body(walk)))
        wanted = []
        for order in ((1, 2, 0), (1, 2, 1), (1, 2, 2), (1, 2, 3), (1, 3, 2), (2, 3, 1)):
            for mark in (False, True):
                weight = -(mark and order[2] == order[1])
                wanted.append((order, (mark,), weight, ((1, 2), ())))
        self.assertEqual(columns(question, ((6, 8), ())), tuple(wanted))

    def test_a_border_and_its_picture(self):
        chance = random.Random(11)
        for _ in range(60):
            question = some_asked(chance, 3000)
            keys, bits = some_border(chance, question)
            picture = (ranks(keys), bits)
            lifted = (tuple(key * 10 ** 28 for key in keys), bits)
            found = columns(question, picture)
            self.assertEqual(columns(question, (keys, bits)), found)
            self.assertEqual(columns(question, lifted), found)
            for order, _, _, (behind, _) in found:
                self.assertEqual((ranks(order), ranks(behind)), (order, behind))
                self.assertEqual(ranks(order[:len(keys)]), picture[0])


class SlowAccount(unittest.TestCase):
    """Everything against the slow account, by questions with all aims."""

    def test_enter_cross_and_complete(self):
        chance = random.Random(5)
        for _ in range(250):
            question = some_asked(chance)
            for _ in range(6):
                guess = some_guess(chance, question, True)
                met = module.enter(question, *guess)
                self.assertEqual(repr(met), repr(slow_enter(question, *guess)))
                border = some_border(chance, question) if met is None else met[1]
                for _ in range(3):
                    whole = module.complete(question, border)
                    self.assertIs(whole, slow_complete(question, border))
                    guess = some_guess(chance, question, False)
                    met = module.cross(question, border, *guess)
                    self.assertEqual(repr(met), repr(slow_cross(question, border, *guess)))
                    border = some_border(chance, question) if met is None else met[1]

    def test_entries_and_columns(self):
        chance = random.Random(6)
        for _ in range(120):
            question = some_asked(chance, 400)
            found = module.entries(question)
            self.assertEqual(repr(found), repr(slow_entries(question)))
            keys, bits = some_border(chance, question)
            for picture in [*(one[:2] for one in found[:3]), (ranks(keys), bits)]:
                behind = module.columns(question, picture)
                self.assertEqual(repr(behind), repr(slow_columns(question, picture)))


class Asked(unittest.TestCase):
    def test_the_same_question_again_behind_others(self):
        chance = random.Random(7)
        told = [some_asked(chance, 500) for _ in range(20)]
        first = [(entries(one), columns(one, some_border(random.Random(1), one))) for one in told]
        again = [(entries(one), columns(one, some_border(random.Random(1), one))) for one in told[::-1]]
        self.assertEqual(again[::-1], first)


if __name__ == "__main__":
    unittest.main()
