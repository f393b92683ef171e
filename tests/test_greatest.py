"""The greatest part that stands: [260] to [263]."""

import random
import unittest
from itertools import combinations

from anylength import greatest as module
from anylength.deciding import decide
from anylength.errors import TooWide
from anylength.libraries import with_after
from anylength.orders import ranks
from anylength.playing import play
from anylength.questions import width
from tests.making import AFTER, numbers_of, some_easy_clause, some_library
from tests.short import (
    ALWAYS, ASCENDING, BOUNDED, CLEAR_BODY, LAST, MARKED, MARKS, NEVER, SAME_MARK, SET, STEP, STEP_BODY, THREE, TOP,
    UNMARKED, UNSET, body, call, contract,
)
from tests.support import asked as twice
from tests.support import keys_of

stands = twice(module.stands)
greatest = twice(module.greatest)

GIVEN = ((("is", "p0", True),),)
ONCE = body(call(0, (), (False,), (("is", "p0", True),)))
LOOP = ((0, 1), ((contract((0, 1)), ONCE),))
UNCHANGED = ("each", SAME_MARK)
EVERY = ("each", MARKED)
MAYBE = ("each", ((("is", "p0", False),),) + MARKED)


def rounds(library, unit, candidates, **limit):
    """All rounds; the generator is asked twice."""
    found = tuple(module.rounds(library, unit, candidates, **limit))
    assert repr(tuple(module.rounds(library, unit, candidates, **limit))) == repr(found)
    return found


class Case(unittest.TestCase):
    def check(self, library, unit, candidates):
        """What all three functions tell of the candidates, and whether it agrees."""
        told = rounds(library, unit, candidates)
        kept, fallen = greatest(library, unit, candidates)
        self.assertEqual(told[0][0], tuple(range(len(candidates))))
        for (left, gone), (further, _) in zip(told, told[1:]):
            self.assertNotEqual(gone, ())
            self.assertEqual(further, tuple(number for number in left if number not in gone))
        self.assertEqual(told[-1], (kept, ()))
        places = [(number, at) for at, (_, gone) in enumerate(told) for number in gone]
        self.assertEqual([one[:2] for one in fallen], places)
        for number, at, run in fallen:
            self.check_run(library, unit, candidates, told[at][0], number, run)
        self.check_stands(library, unit, candidates, told[0][1], fallen)
        self.assertIsNone(stands(library, unit, tuple(candidates[number] for number in kept)))
        return told

    def check_run(self, library, unit, candidates, left, number, run):
        """The run breaks the candidate in the round, on as few rows as a decision tells."""
        together = with_after(library, unit, tuple(candidates[one] for one in left))
        question = (together, unit, ("clause", candidates[number]))
        self.assertEqual(play(question, run)[0], "broken")
        self.assertEqual(len(run[1]), len(decide(question)[1][1]))
        self.assertEqual(ranks(keys_of(run)), keys_of(run))

    def check_stands(self, library, unit, candidates, first, fallen):
        broken = stands(library, unit, candidates)
        if not first:
            self.assertIsNone(broken)
            return
        self.assertEqual(broken[0], first[0])
        self.check_run(library, unit, candidates, range(len(candidates)), broken[0], broken[1])
        self.assertEqual(broken, (fallen[0][0], fallen[0][2]))


class Rounds(Case):
    def test_the_example(self):
        told = self.check(LOOP, 0, (UNCHANGED, EVERY, MAYBE))
        self.assertEqual(told, (((0, 1, 2), (1,)), ((0, 2), (2,)), ((0,), ())))
        kept, fallen = greatest(LOOP, 0, (UNCHANGED, EVERY, MAYBE))
        self.assertEqual((kept, [one[:2] for one in fallen]), ((0,), [(1, 0), (2, 1)]))

    def test_no_candidates(self):
        for library in (LOOP, MARKS, TOP):
            self.assertEqual(rounds(library, 0, ()), (((), ()),))
            self.assertEqual(greatest(library, 0, ()), ((), ()))
            self.assertIsNone(stands(library, 0, ()))
        # Without candidates no question is asked, so none is too wide.
        self.assertEqual(rounds(LOOP, 0, (), limit=0), (((), ()),))
        self.assertIsNone(stands(LOOP, 0, (), limit=0))

    def test_equal_candidates(self):
        self.assertEqual(self.check(LOOP, 0, (EVERY, EVERY)), (((0, 1), (0, 1)), ((), ())))
        self.assertEqual(self.check(LOOP, 0, (UNCHANGED, UNCHANGED)), (((0, 1), ()),))
        self.assertEqual(self.check(LOOP, 0, (UNCHANGED, EVERY, UNCHANGED)), (((0, 1, 2), (1,)), ((0, 2), ())))

    def test_none_is_left(self):
        self.assertEqual(self.check(LOOP, 0, (EVERY,)), (((0,), (0,)), ((), ())))
        told = self.check(LOOP, 0, (("some", NEVER), EVERY, ("names", NEVER)))
        self.assertEqual(told, (((0, 1, 2), (0, 1, 2)), ((), ())))

    def test_candidates_that_hang_on_each_other(self):
        # Two bits are handed on from call to call, each to the place of the other one.
        swap = body(call(0, ("x1", "x0"), ("p0",), GIVEN[0]), keys=("n0", "n1"))
        own = contract((2, 1), (2, 0))
        one = ("names", ((("is", "p0", False),), (("=", "y0", 0),)))
        other = ("names", ((("is", "p0", False),), (("=", "y1", 0),)))
        library = ((0, 1), ((own, swap),))
        # The guard holds in every call again, so what is counted on is never shown to be wrong.
        self.assertEqual(self.check(library, 0, (one, other)), (((0, 1), ()),))
        self.assertEqual(self.check(library, 0, (("names", ((("=", "y0", "y1"),),)), one)), (((0, 1), ()),))
        alone = ((0, 1), ((own, body(call(0, ("x1", "x0"), ("p0",), GIVEN[0]), keys=("n1", "n0"))),))
        self.assertEqual(self.check(alone, 0, (one,)), (((0,), (0,)), ((), ())))
        self.assertEqual(self.check(alone, 0, (one, other)), (((0, 1), ()),))
        self.assertEqual(self.check(alone, 0, (one, other, ("names", NEVER))), (((0, 1, 2), (2,)), ((0, 1), ())))

    def test_three_rounds_and_more(self):
        # Each candidate is counted on at the call for the one before, and the last one is wrong.
        first = ("names", ((("is", "p0", False),), (("=", "y0", 0),)))
        library = ((0, 1), ((contract((0, 1), (2, 0)), body(call(0, (), (False,)), keys=("n1", "n0"))),))
        zero, one = ("names", ((("=", "y0", 0),),)), ("names", ((("=", "y1", 0),),))
        self.assertEqual(self.check(library, 0, (zero, one)), (((0, 1), ()),))
        plain = ((0, 1), ((contract((1, 1), (2, 0)), body(call(0, (0,), (False,)), keys=("n1", "x0"))),))
        self.assertEqual(self.check(plain, 0, (zero, one)), (((0, 1), (1,)), ((0,), (0,)), ((), ())))
        self.assertEqual(self.check(plain, 0, (one, zero, first)), (((0, 1, 2), (0,)), ((1, 2), (1, 2)), ((), ())))

    def test_several_fall_in_one_round(self):
        self.assertEqual(self.check(LOOP, 0, (EVERY, UNCHANGED, ("each", UNMARKED))), (((0, 1, 2), (0, 2)), ((1,), ())))

    def test_units_without_calls_of_themselves(self):
        self.assertEqual(self.check(TOP, 0, (BOUNDED[3][0], ("some", ALWAYS))), (((0, 1), (1,)), ((0,), ())))
        self.assertEqual(self.check(LAST, 0, BOUNDED[3] * 2), (((0, 1), (0, 1)), ((), ())))
        library = ((0, 1), ((contract(), body(THREE)),))
        self.assertEqual(self.check(library, 0, (("each", UNMARKED),)), (((0,), (0,)), ((), ())))
        self.assertEqual(len(greatest(library, 0, (("each", UNMARKED),))[1][0][2][1]), 4)

    def test_a_clause_of_each_kind(self):
        library = ((1, 1), ((contract((1, 0), before=(("some", ALWAYS),)), body(SET)),))
        kept = (("names", ((("<=", 0, "x0"),),)), ("each", MARKED), ("some", MARKED), ("next", MARKED))
        gone = (("names", ((("<", 0, "x0"),),)), ("each", UNMARKED), ("some", UNMARKED), ("next", ASCENDING))
        for clause in kept:
            self.assertEqual(self.check(library, 0, (clause,)), (((0,), ()),))
        for clause in gone:
            self.assertEqual(self.check(library, 0, (clause,)), (((0,), (0,)), ((), ())))
        self.assertEqual(self.check(library, 0, (kept[3], gone[2], kept[0])), (((0, 1, 2), (1,)), ((0, 2), ())))

    def test_candidates_stand_behind_the_clauses_of_after(self):
        # The unit counts on its own after, too, be it true or not.
        own = contract((0, 1), after=(EVERY,))
        library = ((0, 1), ((own, body(call(0, (), (False,)))),))
        self.assertEqual(self.check(library, 0, (EVERY,)), (((0,), ()),))
        guarded = ((0, 1), ((own, body(call(0, (), (False,)), UNSET)),))
        self.assertEqual(self.check(guarded, 0, (EVERY, ("some", MARKED))), (((0, 1), (0, 1)), ((), ())))
        counting = ((0, 1), ((contract((0, 1), after=(EVERY,)), body(call(0, (), ("p0",), GIVEN[0]))),))
        self.assertEqual(self.check(counting, 0, (MAYBE, EVERY)), (((0, 1), (1,)), ((0,), ())))
        plain = ((0, 1), ((contract((0, 1)), counting[1][0][1]),))
        self.assertEqual(self.check(plain, 0, (MAYBE,)), (((0,), ()),))
        self.assertEqual(self.check(plain, 0, (EVERY,)), (((0,), (0,)), ((), ())))

    def test_another_unit_is_asked_about(self):
        library = ((0, 1), ((STEP, STEP_BODY), (contract(), CLEAR_BODY)))
        clear = ("each", UNMARKED)
        self.assertEqual(self.check(library, 1, (clear, ("some", ALWAYS))), (((0, 1), (1,)), ((0,), ())))

    def test_against_all_parts(self):
        chance = random.Random(20)
        many = {}
        while sum(many.values()) < 60:
            library = some_library(chance, many=chance.randrange(1, 3), gaps=0)
            unit = chance.randrange(len(library[1]))
            own = library[1][unit][0]
            letters = {kind: AFTER[kind] for kind in ("names", "each", "some", "next")}
            numbers = numbers_of(library[0], own[0], own[1])
            candidates = tuple(some_easy_clause(chance, letters, numbers) for _ in range(chance.randrange(1, 4)))
            together = with_after(library, unit, candidates)
            if max(width((together, unit, ("clause", clause))) for clause in candidates) > 1500:
                continue
            told = self.check(library, unit, candidates)
            kept = told[-1][0]
            for some in range(1, len(candidates) + 1):
                for part in combinations(range(len(candidates)), some):
                    if stands(library, unit, tuple(candidates[number] for number in part)) is None:
                        self.assertLessEqual(set(part), set(kept))
            many[len(told)] = many.get(len(told), 0) + 1
        self.assertGreater(many[2], 5)


class Generator(Case):
    def test_rounds_that_are_left_in_their_midst(self):
        one = module.rounds(LOOP, 0, (UNCHANGED, EVERY, MAYBE))
        self.assertEqual(next(one), ((0, 1, 2), (1,)))
        other = module.rounds(LOOP, 0, (EVERY,))
        self.assertEqual(next(other), ((0,), (0,)))
        self.assertEqual(next(one), ((0, 2), (2,)))
        one.close()
        self.assertEqual(tuple(other), (((), ()),))
        self.assertEqual(greatest(LOOP, 0, (UNCHANGED, EVERY, MAYBE))[0], (0,))

    def test_nothing_is_asked_ahead(self):
        # With the last round's width only the first round is too wide.
        one = module.rounds(LOOP, 0, (UNCHANGED,), limit=0)
        with self.assertRaises(TooWide):
            next(one)


class Widths(Case):
    def widths(self, library, unit, candidates):
        together = with_after(library, unit, candidates)
        return [width((together, unit, ("clause", clause))) for clause in candidates]

    def setUp(self):
        # A clause about neighbours is watched at the call, with a kept key, and again as the goal.
        self.library = ((1, 0), ((contract((0, 1)), ONCE),))
        self.names = ("names", ((("is", "p0", False),),))
        self.next = ("next", ((("<", "k0", "K0"),),))

    def test_the_first_width_above_the_limit(self):
        candidates = (self.names, self.next, ("each", ALWAYS))
        found = self.widths(self.library, 0, candidates)
        self.assertEqual(sorted(found), [found[0], found[2], found[1]])
        for limit, number in ((found[1] - 1, found[1]), (found[2] - 1, found[1]), (found[0] - 1, found[0]),
                              (0, found[0])):
            for door in (stands, greatest, rounds):
                with self.assertRaises(TooWide) as caught:
                    door(self.library, 0, candidates, limit=limit)
                self.assertEqual(caught.exception.number, number)
        for door in (stands, greatest, rounds):
            door(self.library, 0, candidates, limit=found[1])

    def test_the_order_of_the_candidates(self):
        candidates = (("each", ALWAYS), self.names, self.next)
        found = self.widths(self.library, 0, candidates)
        with self.assertRaises(TooWide) as caught:
            stands(self.library, 0, candidates, limit=found[1] - 1)
        self.assertEqual(caught.exception.number, found[0])

    def test_all_widths_come_ahead_of_what_is_broken(self):
        # The first one is broken, and the second one is too wide.
        candidates = (self.names, self.next)
        found = self.widths(self.library, 0, candidates)
        for door in (stands, greatest, rounds):
            with self.assertRaises(TooWide) as caught:
                door(self.library, 0, candidates, limit=found[1] - 1)
            self.assertEqual(caught.exception.number, found[1])

    def test_a_round_that_is_too_wide_is_the_one_that_is_asked_for(self):
        # Rounds only become narrower, so it is the first one.
        candidates = (self.names, self.next)
        one = module.rounds(self.library, 0, candidates, limit=0)
        with self.assertRaises(TooWide):
            next(one)
        one = module.rounds(self.library, 0, candidates, limit=max(self.widths(self.library, 0, candidates)))
        self.assertEqual(next(one), ((0, 1), (0, 1)))
        self.assertEqual(tuple(one), (((), ()),))


if __name__ == "__main__":
    unittest.main()
