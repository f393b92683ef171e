"""Two bodies that do the same: [240], [241]."""

import random
import unittest

from anylength import sameness as module
from anylength.deciding import decide
from anylength.errors import HasCalls, OtherNumbers, TooWide
from anylength.orders import ranks
from anylength.papers import judge
from anylength.playing import play
from anylength.questions import width
from anylength.tracks import path, told_run
from tests.every import least_broken
from tests.short import (
    ALWAYS, BOUNDED, CARRY, CLIMB, LAST, MARKED, MARKS, NEVER, NOTHING, SET, STEP, THREE, TOP,
    UNMARKED, UNSET, body, call, contract,
)
from tests.support import asked as twice
from tests.support import keys_of
from tests.told import some_alike

same = twice(module.same)

GIVEN = ((("is", "p0", True),),)
ANY = ("up", (), (False,), (((("is", "m0", True),), (("f0", True),), False),), ("f0",))
LATEST = ("up", (), (False,), (((), (("f0", "m0"),), False),), ("f0",))
THREE_UNITS = ((1, 0), (TOP[1][0], LAST[1][0], (BOUNDED, body(keys=(0,)))))


class Case(unittest.TestCase):
    def same(self, library, unit=0, other=1):
        """The found paper, of two bodies that do the same."""
        verdict, paper = same(library, unit, other)
        self.assertEqual(verdict, "same")
        question = (library, unit, ("same", other))
        self.assertIsNone(judge(question, paper))
        self.assertEqual(decide(question), ("holds", paper))
        return paper

    def unlike(self, library, rows, place, unit=0, other=1):
        """The told run, of two bodies that do not do the same, on so many rows."""
        verdict, told = same(library, unit, other)
        self.assertEqual((verdict, len(told[1]), told[2:]), ("unlike", rows, ((), 0)))
        question = (library, unit, ("same", other))
        self.assertEqual(play(question, told), ("broken", place))
        self.assertEqual(ranks(keys_of(told[:2])), keys_of(told[:2]))
        self.assertEqual(told_run(question, path(question, told)), told)
        return told

    def bodies(self, shape, one, other, takes=(0, 0), gives=(0, 0), before=((), ())):
        return (shape, ((contract(takes, gives, before[0]), one), (contract(takes, gives, before[1]), other)))


class Same(Case):
    def test_a_unit_with_itself(self):
        self.same(THREE_UNITS, 0, 0)
        self.same(THREE_UNITS, 1, 1)
        self.same(THREE_UNITS, 2, 2)
        self.same(MARKS, 0, 0)

    def test_the_example(self):
        self.unlike(THREE_UNITS, 2, ("results",), 0, 1)
        self.unlike(THREE_UNITS, 2, ("results",), 1, 0)
        self.unlike(THREE_UNITS, 1, ("results",), 0, 2)
        self.unlike(THREE_UNITS, 1, ("results",), 2, 1)

    def test_both_directions(self):
        # Whether a row is marked is found upwards and downwards, and the last mark is another thing.
        for one in (ANY, ("down",) + ANY[1:]):
            for other in (ANY, ("down",) + ANY[1:]):
                library = self.bodies((0, 1), body(one, bits=("g0",)), body(other, bits=("g0",)), gives=(0, 1))
                self.same(library)
                library = self.bodies((0, 1), body(one, bits=("g0",)), body(LATEST, bits=("g0",)), gives=(0, 1))
                told = self.unlike(library, 2, ("results",))
                self.assertEqual(told[1], ((True,), (False,)))
        up, down = (CARRY[:4] + ((),), ("down",) + CARRY[1:4] + ((),))
        library = self.bodies((1, 0), body(up), body(down), takes=(1, 0))
        # Upwards the given key comes to row 0, downwards to the last one.
        told = self.unlike(library, 2, ("row", 0))
        self.assertNotEqual(told[0][0][0], told[1][1][0])

    def test_results_come_ahead_of_rows(self):
        for one, other, place in (((body(SET, bits=(True,))), body(bits=(True,)), ("row", 0)),
                                  (body(SET, bits=(True,)), body(bits=(False,)), ("results",))):
            library = self.bodies((0, 1), one, other, gives=(0, 1))
            self.unlike(library, 1 if place == ("row", 0) else 0, place)

    def test_other_bits_and_other_keys(self):
        library = self.bodies((0, 1), body(bits=("p0",)), body(bits=(True,)), (0, 1), (0, 1))
        self.assertEqual(self.unlike(library, 0, ("results",))[0], ((), (False,)))
        library = self.bodies((0, 1), body(keys=("x0", 0)), body(keys=("x0", "x0")), (1, 0), (2, 0))
        self.assertEqual(self.unlike(library, 0, ("results",))[0], ((1,), ()))

    def test_rows(self):
        for one, other, rows in (
            ((SET,), (UNSET,), 1), ((SET, UNSET), (UNSET,), None), ((UNSET, SET), (SET,), None), ((), (), None),
            ((SET,), (), 1), ((THREE,), (UNSET,), 4), ((THREE, THREE), (UNSET,), 7), ((THREE, THREE), (THREE,), 4),
        ):
            library = self.bodies((0, 1), body(*one), body(*other))
            if rows is None:
                self.same(library)
            else:
                told = self.unlike(library, rows, ("row", rows - 1))
                self.assertEqual(len(told[1]), rows)

    def test_only_where_both_may_begin(self):
        ones = (("each", MARKED),)
        self.same(self.bodies((0, 1), body(SET), body(), before=(ones, ())))
        self.same(self.bodies((0, 1), body(SET), body(), before=((), ones)))
        # One row is marked, and the two bodies differ in the other one.
        library = self.bodies((0, 1), body(SET), body(), before=((("some", MARKED),), ()))
        marks = [row[0] for row in same(library, 0, 1)[1][1]]
        self.assertEqual(sorted(marks), [False, True])
        self.unlike(library, 2, ("row", marks.index(False)))
        self.same(self.bodies((0, 1), body(SET), body(UNSET), before=(ones, (("each", UNMARKED), ("some", ALWAYS)))))
        self.same(self.bodies((0, 1), body(SET), body(UNSET), before=(ones, (("some", UNMARKED),))))

    def test_names_clauses_of_before_of_both(self):
        given = (("names", GIVEN),)
        taken = (("names", ((("is", "p0", False),),)),)
        one, other = body(bits=("p0",)), body(bits=(True,))
        numbers = {"takes": (0, 1), "gives": (0, 1)}
        self.unlike(self.bodies((0, 1), one, other, **numbers), 0, ("results",))
        self.same(self.bodies((0, 1), one, other, before=(given, ()), **numbers))
        self.same(self.bodies((0, 1), one, other, before=((), given), **numbers))
        self.unlike(self.bodies((0, 1), one, other, before=((), taken), **numbers), 0, ("results",))
        # Nothing keeps both: the paper is empty.
        self.assertEqual(self.same(self.bodies((0, 1), one, other, before=(given, taken), **numbers)), ())

    def test_next_clauses_of_before_of_the_other_one(self):
        # Where each row behind a marked one is marked, the last mark tells whether there is one.
        spread = (("next", ((("is", "m0", False),), (("is", "M0", True),))),)
        for before in ((spread, ()), ((), spread), (spread, spread)):
            self.same(self.bodies((0, 1), body(ANY, bits=("g0",)), body(LATEST, bits=("g0",)), gives=(0, 1),
                                  before=before))

    def test_what_after_says_plays_no_part(self):
        one = contract(after=(("each", NEVER), ("some", NEVER)), falls=(MARKED, 1))
        self.same(((0, 1), ((one, body(SET)), (contract(), body(SET)))))
        self.unlike(((0, 1), ((one, body(SET)), (one, body()))), 1, ("row", 0))

    def test_told_runs_are_runs_from_before_of_both(self):
        before = ((("names", ((("<", "x0", "x1"),),)),),
                  (("some", ((("=", "k0", "x1"),),)), ("names", ((("<", 0, "x0"),),))))
        library = self.bodies((1, 0), body(keys=("x0",)), body(keys=("x1",)), (2, 0), (1, 0), before)
        told = self.unlike(library, 1, ("results",))
        self.assertEqual(told[:2], (((1, 2), ()), ((2,),)))

    def test_against_a_slow_search(self):
        chance = random.Random(19)
        verdicts = {}
        while sum(verdicts.values()) < 90:
            library = some_alike(chance)
            unit, other = chance.choice(((0, 1), (1, 0), (0, 1), (1, 0), (1, 1)))
            question = (library, unit, ("same", other))
            if width(question) > 1500:
                continue
            verdict, told = same(library, unit, other)
            least, upto = least_broken(question, 2, 500)
            if verdict == "unlike":
                place = play(question, told)[1]
                self.unlike(library, len(told[1]), place, unit, other)
                self.assertTrue(least == len(told[1]) or len(told[1]) > upto)
            else:
                self.same(library, unit, other)
                self.assertIsNone(least)
            verdicts[verdict] = verdicts.get(verdict, 0) + 1
        self.assertGreater(min(verdicts.values()), 15)


class Errors(Case):
    def raised(self, error, library, unit, other, **limit):
        with self.assertRaises(error) as caught:
            same(library, unit, other, **limit)
        return caught.exception

    def test_calls(self):
        calling = (contract((1, 0)), body(call(0, ("x0",), guard=(("<", 0, 0),))))
        plain = (contract((1, 0)), body(CARRY))
        other_numbers = (contract((0, 1)), body(CARRY[:1] + ((0,),) + CARRY[2:]))
        library = ((1, 0), (calling, plain, calling, other_numbers))
        self.assertEqual(self.raised(HasCalls, library, 0, 1).unit, 0)
        self.assertEqual(self.raised(HasCalls, library, 1, 0).unit, 0)
        self.assertEqual(self.raised(HasCalls, library, 2, 0).unit, 2)
        self.assertEqual(self.raised(HasCalls, library, 0, 0).unit, 0)
        # It comes ahead of other numbers and of the width.
        self.assertEqual(self.raised(HasCalls, library, 3, 2, limit=0).unit, 2)
        self.assertEqual(self.raised(HasCalls, library, 0, 3, limit=0).unit, 0)

    def test_other_numbers(self):
        one = (contract((1, 0), (1, 0)), body(keys=("x0",)))
        for takes, gives in (((2, 0), (1, 0)), ((1, 1), (1, 0)), ((1, 0), (2, 0)), ((1, 0), (1, 1)), ((0, 0), (1, 0))):
            other = (contract(takes, gives), body(keys=(0,) * gives[0], bits=(True,) * gives[1]))
            library = ((1, 0), (one, other))
            self.raised(OtherNumbers, library, 0, 1)
            self.raised(OtherNumbers, library, 1, 0, limit=0)
        self.raised(OtherNumbers, ((0, 1), ((STEP, body(bits=(True,))), (contract(), body()))), 0, 1)

    def test_too_wide(self):
        for unit, other in ((0, 0), (0, 1), (0, 2), (1, 0)):
            number = width((THREE_UNITS, unit, ("same", other)))
            self.assertEqual(same(THREE_UNITS, unit, other, limit=number), same(THREE_UNITS, unit, other))
            for limit in (number - 1, 0):
                self.assertEqual(self.raised(TooWide, THREE_UNITS, unit, other, limit=limit).number, number)

    def test_no_limit_told(self):
        library = self.bodies((1, 1), body(CLIMB, CLIMB, CLIMB), body(CLIMB, CLIMB))
        number = width((library, 0, ("same", 1)))
        self.assertGreater(number, 10000)
        self.assertEqual(self.raised(TooWide, library, 0, 1).number, number)
        self.assertEqual(play((library, 0, ("same", 1)), (NOTHING, (), (), 0)), ("kept",))


if __name__ == "__main__":
    unittest.main()
