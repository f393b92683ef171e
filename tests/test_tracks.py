"""Tracks: [168], and the three functions that lead to them and back."""

import random
import unittest

from anylength import tracks as module
from anylength.columns import complete, cross, enter
from anylength.questions import guessed
from tests.making import some_pair
from tests.short import (
    ALWAYS, ASCENDING, CLIMB, LAST, MARKED, MARKS, NEVER, NOTHING, OFTEN, SET, TAKE, TOP,
    UNSET, asked, body, call, contract,
)
from tests.slow import slow_play
from tests.some import some_asked, some_guess
from tests.support import asked as twice
from tests.support import some_table
from tests.told import some_told

path = twice(module.path)
follow = twice(module.follow)
told_run = twice(module.told_run)

FALSE = ("names", NEVER)
GIVEN = ((("is", "p0", True),),)


class Paths(unittest.TestCase):
    def test_without_calls(self):
        question = (TOP, 0, ("after", 0))
        self.assertEqual(path(question, (NOTHING, (), (), 0)), (((0,), ()),))
        self.assertEqual(path(question, (NOTHING, ((5,), (3,), (6,)), (), 0)),
                         (((6,), ()), ((5,), ()), ((3,), ()), ((6,), ())))

    def test_givens_names_and_the_value(self):
        walk = ("up", ("x1",), ("p0",), (((("is", "m0", True),), (("f0", True),), False),), ("r0", "f0"))
        question = asked((1, 1), ("clause", ("change", OFTEN, 1, ())), (contract((2, 1)), body(walk, CLIMB)))
        told = (((8, 4), (False,)), ((3, False), (5, True)), (), 7)
        self.assertEqual(path(question, told), (((8, 4, 4, 5, 7), (False, True)), ((3,), (False,)), ((5,), (True,))))

    def test_no_value(self):
        question = asked((0, 1), ("clause", ("change", MARKED, 0, ())), (contract(), body(SET)))
        self.assertEqual(path(question, (NOTHING, ((True,),), (), 0)), (((), ()), ((), (True,))))

    def test_walks_downwards(self):
        down = ("down", (0,), (), (((("<", "r0", "k0"),), (("r0", "k0"), ("k0", "r0")), False),), ("r0",))
        flag = ("down", (), (False,), (((("=", "k0", 0),), (("f0", True),), False),), ())
        question = asked((1, 0), ("clause", FALSE), (contract(), body(down, flag)))
        # The first walk leaves 5, 3 and 0 and the key 6; the second one finds 0 in the last row.
        told = (NOTHING, ((6,), (5,), (3,)), (), 0)
        wanted = (((6, 6), (True,)), ((6, 5), (True,)), ((5, 3), (True,)), ((3, 0), (False,)))
        self.assertEqual(path(question, told), wanted)
        self.assertEqual(guessed(question)[0], ((("name", "n0"), ("item", 0, "r0")), (("item", 1, "f0"),)))

    def test_calls_that_are_made(self):
        called = contract((0, 0), (1, 1))
        question = asked((1, 1), ("clause", FALSE), (contract(), body(SET, call(1), UNSET, call(1))), (called, None))
        one = ((3,), (True,), ((7, True), (8, False)))
        two = ((4,), (False,), ((9, True), (1, True)))
        told = (NOTHING, ((5, False), (6, False)), (one, two), 0)
        self.assertEqual(path(question, told), (
            ((3, 4), (True, False)),
            ((5, 7, 9), (False, True, True)),
            ((6, 8, 1), (False, False, True)),
        ))

    def test_calls_that_are_not_made(self):
        # The ghost is the row as the walk ahead of the call has left it.
        question = asked((1, 1), ("clause", FALSE), (contract((0, 1)), body(SET, call(1, guard=GIVEN[0]), UNSET)),
                         (contract((0, 0), (1, 1)), None))
        told = (((), (False,)), ((5, False),), (None,), 0)
        self.assertEqual(path(question, told), (((0,), (False, False)), ((5, 5), (False, True))))

    def test_answers_that_cannot_be_followed(self):
        question = asked((1, 1), ("clause", FALSE), (contract((0, 1)), body(call(1, guard=GIVEN[0]), call(1))),
                         (contract((0, 0), (1, 1)), None))
        table = ((5, False),)
        fine = ((0,), (False,), ((6, True),))
        yes, no = ((), (True,)), ((), (False,))
        self.assertIsNotNone(path(question, (yes, table, (fine, fine), 0)))
        self.assertIsNotNone(path(question, (no, table, (None, fine), 0)))
        for givens, answers in (
            (yes, (None, fine)), (no, (fine, fine)), (yes, (fine, None)),
            (yes, (fine, ((0,), (False,), ()))), (yes, (((0,), (False,), table * 2), fine)),
            (yes, (((0,), (False,), ()), fine)), (no, (None, ((0,), (False,), table * 2))),
        ):
            self.assertIsNone(path(question, (givens, table, answers, 0)))

    def test_nothing_else_is_asked(self):
        # No clause of before or of after is kept, and the guard of the call that is asked about neither.
        before = (("names", NEVER), ("each", NEVER))
        called = contract((0, 0), (1, 1), before, (("names", NEVER), ("each", NEVER), ("some", NEVER)))
        items = (call(1), call(1, guard=(("is", "g0", True),)))
        question = asked((1, 1), ("call", 1, 0), (contract(before=before), body(*items)), (called, None))
        told = (NOTHING, ((5, False),), (((2,), (False,), ((9, True),)),), 0)
        self.assertEqual(path(question, told), (((2,), (False,)), ((5, 9), (False, True))))

    def test_only_the_items_of_the_question(self):
        own = contract(falls=(MARKED, 1))
        items = (CLIMB, call(0), call(0), TAKE)
        question = asked((1, 1), ("falls", 2), (own, body(*items)))
        told = (NOTHING, ((5, True),), (((), (), ((6, False),)),), 0)
        self.assertEqual(path(question, told), (((5,), ()), ((5, 6), (True, False))))

    def test_picked_rows(self):
        units = ((contract(), body(SET)),)
        for aim in (("clause", ("pairs", NEVER)), ("seen", ("k0",), ()), ("seen", (), ("u0",))):
            question = asked((1, 1), aim, *units)
            told = (NOTHING, ((5, True), (6, False)), (), 0)
            for row in (None, 0, 1):
                wanted = (((), ()), ((5,), (True, row == 0)), ((6,), (False, row == 1)))
                self.assertEqual(path(question, told, row=row), wanted)
            self.assertEqual(path(question, told), path(question, told, row=None))

    def test_seen_without_row_terms(self):
        question = asked((1, 0), ("seen", ("y0",), ()), *TOP[1])
        self.assertEqual(path(question, (NOTHING, ((5,),), (), 0)), (((5,), ()), ((5,), ())))

    def test_same(self):
        down = ("down", ("n0",), (), (((), (("r0", "k0"),), False),), ("r0",))
        units = ((contract((1, 0)), body(CLIMB, down)), (contract((1, 0)), body(TAKE, down)))
        question = asked((1, 0), ("same", 1), *units)
        # Both begin with the table at the beginning: the names are 6, 5 and 2, 5.
        told = (((9,), ()), ((5,), (6,), (2,)), (), 0)
        wanted = (((9, 6, 5, 2, 5, 5, 5), ()), ((5, 6, 6), ()), ((6, 2, 2), ()), ((2, 6, 2), ()))
        self.assertEqual(path(question, told), wanted)

    def test_same_begins_again_with_the_table(self):
        units = ((contract((0, 1)), body(SET)), (contract((0, 1)), body(("up", (), ("p0",), (
            ((("is", "m0", False),), (("f0", True),), False),), ("f0",)))))
        question = asked((0, 1), ("same", 1), *units)
        self.assertEqual(path(question, (((), (False,)), ((False,),), (), 0)), (((), (False, True)), ((), (False,))))
        self.assertEqual(path(question, (((), (False,)), ((True,),), (), 0)), (((), (False, False)), ((), (True,))))


class Follow(unittest.TestCase):
    def test_borders_and_weights(self):
        question = (MARKS, 0, ("after", 0))
        track = (((), (True,)), ((), (False,)), ((), (True,)), ((), (True,)))
        bits = ((True, False), (True, False), (True, True), (True, True))
        self.assertEqual(follow(question, track), tuple(zip(((),) * 4, bits, (1, 1, 0, 0))))

    def test_a_track_that_is_cut_off(self):
        question = (TOP, 0, ("after", 0))
        track = (((2,), ()), ((5,), ()), ((3,), ()), ((7,), ()))
        whole = follow(question, track)
        self.assertEqual(len(whole), 4)
        for many in (1, 2, 3):
            self.assertEqual(follow(question, track[:many]), whole[:many])

    def test_a_guess_that_is_not_allowed(self):
        told = contract(before=(("next", ASCENDING), ("names", ALWAYS)))
        zero = ("names", ((("=", "x0", 0),),))
        question = asked((1, 0), ("clause", zero), (contract((1, 0), before=told[2]), body()))
        good = (((4,), ()), ((3,), ()), ((3,), ()), ((2,), ()), ((9,), ()))
        borders = (((4, 0), (False,), 1), ((4, 3), (True,), 1), ((4, 3), (True,), 1))
        self.assertEqual(follow(question, good), borders)
        self.assertEqual(follow(question, (((0,), ()), ((3,), ()))), ())

    def test_sums_over_several_rows(self):
        question = asked((0, 1), ("clause", ("change", MARKED, 0, ((2, ALWAYS),))), (contract(), body(UNSET)))
        track = (((), ()),) + tuple(((), (bit,)) for bit in (True, False, True, True))
        self.assertEqual([weight for _, _, weight in follow(question, track)], [-2, -3, -3, -4, -5])

    def test_long_tracks_and_great_keys(self):
        question = (TOP, 0, ("after", 0))
        table = tuple((10 ** 40 + at,) for at in range(200))
        track = path(question, (NOTHING, table, (), 0))
        found = follow(question, track)
        self.assertEqual((len(found), found[-1]), (201, ((10 ** 40 + 199,) * 2, (False,), 1)))
        self.assertEqual(told_run(question, track), (NOTHING, table, (), 0))


class ToldRuns(unittest.TestCase):
    def test_without_calls(self):
        question = (LAST, 0, ("after", 0))
        # The border at the end is not complete: 7 does not come out.
        self.assertEqual(told_run(question, (((7,), ()), ((5,), ()))), (NOTHING, ((5,),), (), 0))
        self.assertEqual(told_run(question, (((7,), ()),)), (NOTHING, (), (), 0))

    def test_givens_and_the_value(self):
        question = asked((1, 1), ("clause", ("change", OFTEN, 1, ())), (contract((2, 1)), body(SET)))
        track = (((8, 4, 6), (True,)), ((3,), (False,)))
        self.assertEqual(told_run(question, track), (((8, 4), (True,)), ((3, False),), (), 6))

    def test_calls(self):
        items = (SET, call(1, guard=GIVEN[0]), CLIMB, call(1, guard=(("is", "g0", False),)))
        question = asked((1, 1), ("clause", FALSE), (contract((0, 1)), body(*items)), (contract((0, 0), (1, 1)), None))
        rows = (((5, 7, 8), (False, True, False)), ((6, 6, 6), (True, True, True)))
        both = (((3, 9, 4), (True, False, True)), *rows)
        ghosts = (((7, True), (6, True)), ((8, False), (6, True)))
        table = ((5, False), (6, True))
        wanted = (((), (True,)), table, (((3,), (False,), ghosts[0]), ((4,), (True,), ghosts[1])), 0)
        self.assertEqual(told_run(question, both), wanted)
        one = (((3, 9, 0), (True, True, False)), ((5, 7, 7), (False, True, True)))
        wanted = (((), (True,)), table[:1], (((3,), (True,), ghosts[0][:1]), None), 0)
        self.assertEqual(told_run(question, one), wanted)

    def test_same(self):
        units = ((contract((1, 0)), body(CLIMB)), (contract((1, 0)), body(TAKE)))
        question = asked((1, 0), ("same", 1), *units)
        self.assertEqual(told_run(question, (((8, 5, 5), ()), ((5,), ()))), (((8,), ()), ((5,),), (), 0))

    def test_walks_downwards_and_picks_leave_no_trace(self):
        down = ("down", (0,), (False,), (), ("r0",))
        question = asked((1, 1), ("clause", ("pairs", NEVER)), (contract(), body(down)))
        track = (((4, 4), (True,)), ((5, 4), (False, True, True)), ((6, 0), (True, False, False)))
        self.assertEqual(told_run(question, track), (NOTHING, ((5, False), (6, True)), (), 0))


def some_run(chance, question):
    """A told run with any aim; with those of [142] its answers are allowed or not."""
    rows = chance.randrange(4)
    library, unit, aim = question
    if aim[0] == "same":
        return (some_pair(chance, library[1][unit][0][0]), some_table(chance, library[0], rows), (), 0)
    return some_told(chance, question, rows, 0.1)


class ThereAndBack(unittest.TestCase):
    def test_told_runs_of_paths(self):
        chance = random.Random(3)
        met = 0
        for _ in range(500):
            question = some_asked(chance)
            told = some_run(chance, question)
            picks = ("pick",) in guessed(question)[1][1]
            row = chance.randrange(len(told[1])) if picks and told[1] and chance.random() < 0.8 else None
            track = path(question, told, row=row)
            if track is None:
                continue
            self.assertEqual(len(track), len(told[1]) + 1)
            self.assertEqual(told_run(question, track), told)
            self.check(question, track, told)
            met += 1
        self.assertGreater(met, 300)

    def check(self, question, track, told):
        """A run from before is bad exactly if it breaks, of pairs if the right row is picked."""
        found = follow(question, track)
        self.assertLessEqual(len(found), len(track))
        verdict = "seen" if question[2][0] == "seen" else slow_play(question, told)[0]
        if verdict in ("broken", "kept"):
            whole = len(found) == len(track)
            bad = whole and complete(question, found[-1][:2]) and found[-1][2] != 0
            if ("pick",) in guessed(question)[1][1]:
                self.assertTrue(verdict == "broken" or not bad)
            else:
                self.assertIs(bad, verdict == "broken")

    def test_follow_is_enter_and_cross(self):
        chance = random.Random(4)
        for _ in range(200):
            question = some_asked(chance)
            track = tuple(some_guess(chance, question, at == 0) for at in range(4))
            wanted, weight = [], 0
            met = enter(question, *track[0])
            for guess in (*track[1:], None):
                if met is None:
                    break
                weight += met[0]
                wanted.append((*met[1], weight))
                met = cross(question, met[1], *guess) if guess else None
            self.assertEqual(follow(question, track), tuple(wanted))

    def test_paths_that_pick_the_right_row(self):
        question = asked((1, 0), ("clause", ("pairs", ASCENDING)), (contract(), body()))
        told = (NOTHING, ((1,), (4,), (5,), (3,)), (), 0)
        bad = []
        for row in (None, 0, 1, 2, 3):
            found = follow(question, path(question, told, row=row))
            bad.append(len(found) == 5 and complete(question, found[-1][:2]))
        self.assertEqual(bad, [False, False, True, True, False])

    def test_the_call_that_is_asked_about(self):
        told = (NOTHING, ((True,),), (((), (True,), ((False,),)),), 0)
        track = path((MARKS, 1, ("falls", 1)), told)
        self.assertEqual(track, (((), (True,)), ((), (True, False))))
        self.assertEqual(told_run((MARKS, 1, ("falls", 1)), track), told)


if __name__ == "__main__":
    unittest.main()
