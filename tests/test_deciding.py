"""Deciding: [180] to [185], [140] to [145] for what is broken, [171]."""

import random
import unittest

from anylength import deciding as module
from anylength.columns import complete, entries
from anylength.errors import TooWide
from anylength.orders import ranks
from anylength.papers import judge, judge_stages, work
from anylength.playing import play
from anylength.questions import guessed, layout, width
from anylength.tracks import follow, path, told_run
from tests.every import least_broken, slow_levels, slow_paper
from tests.short import (
    ALWAYS, ASCENDING, CARRY, CLEAR, CLEAR_BODY, CLIMB, FIRST, HASTY, LAST, MARKED, MARKS, NEVER, NOTHING,
    OFTEN, SAME_MARK, SET, STEP, STEP_BODY, TAKE, THREE, TOP, UNMARKED, UNSET, asked, body, call, contract,
)
from tests.slow_rows import slow_reached
from tests.some import some_asked
from tests.support import asked as twice
from tests.support import keys_of

levels = twice(module.levels)
reach = twice(module.reach)
stages = twice(module.stages)
decide = twice(module.decide)

FALSE = ("names", NEVER)
GIVEN = ((("is", "p0", True),),)
QUESTION = (TOP, 0, ("after", 0))


class Case(unittest.TestCase):
    def holds(self, question):
        """The found paper of a question that holds."""
        verdict, paper = decide(question)
        self.assertEqual(verdict, "holds")
        self.check_paper(question, paper)
        return paper

    def check_paper(self, question, paper):
        self.assertIsNone(judge(question, paper))
        self.assertEqual(list(paper), sorted(paper, key=lambda row: row[:2]))
        self.assertEqual(len({row[:2] for row in paper}), len(paper))
        self.assertLessEqual(work(question, paper), 2 * width(question))
        self.assertEqual(tuple(sorted(one for level in levels(question) for one in level)),
                         tuple(row[:2] for row in paper))

    def broken(self, question, rows):
        """The told run that breaks a question, on so many rows."""
        verdict, told = decide(question)
        self.assertEqual(verdict, "broken")
        self.assertEqual(len(told[1]), rows)
        self.check_told(question, told)
        return told

    def check_told(self, question, told):
        """A told run breaks the question, its keys are an order, and no fewer rows do."""
        self.assertEqual(play(question, told)[0], "broken")
        value = ("value", "v0") in layout(question)[0]
        keys = keys_of(told if value else told[:3])
        self.assertEqual(ranks(keys), keys)
        self.assertTrue(value or told[3] == 0)
        rows = len(told[1])
        if width(question) * (rows + 1) <= 10000:
            self.assertIsNone(judge_stages(question, stages(question, rows)))
            self.assertEqual(judge_stages(question, stages(question, rows + 1))[:2], ("end", rows))
        self.check_track(question, told, rows)

    def check_track(self, question, told, rows):
        """Its track is that of a bad run, if the right row is picked."""
        picks = ("pick",) in guessed(question)[1][1]
        bad = []
        for row in range(rows) if picks else (None,):
            track = path(question, told, row=row)
            found = follow(question, track)
            bad.append(len(found) == rows + 1 and complete(question, found[-1][:2]) and found[-1][2] != 0)
            self.assertEqual(told_run(question, track), told)
        self.assertTrue(any(bad))


class Levels(Case):
    def test_the_example(self):
        wanted = ((((0, 0), (False,)), ((1, 0), (False,))),
                  (((0, 1), (True,)), ((1, 1), (False,)), ((1, 2), (True,)), ((2, 1), (False,))))
        self.assertEqual(levels(QUESTION), wanted)
        # The picture hangs on no verdict: a search goes on behind bad runs, too.
        self.assertEqual(len(levels((LAST, 0, ("after", 0)))), 3)

    def test_no_entries(self):
        self.assertEqual(levels(asked((0, 1), ("clause", ("names", ALWAYS)), (contract(), body()))), ())

    def test_a_picture_stands_in_its_first_level(self):
        question = asked((0, 1), ("clause", FALSE), (contract(), body(THREE)))
        counts = ((False, False), (True, False), (False, True), (True, True))
        self.assertEqual(levels(question), tuple((((), bits),) for bits in counts))

    def test_a_level_with_several_pictures_is_ascending(self):
        question = asked((1, 0), ("clause", FALSE), (contract((1, 1)), body(TAKE)))
        found = levels(question)
        # All pictures of x0, n0 and the register with p0; the register begins as 0.
        self.assertEqual([len(level) for level in found], [6 * 2, (26 - 6) * 2])
        for level in found:
            self.assertEqual(list(level), sorted(level))

    def test_weights_play_no_part(self):
        question = asked((0, 1), ("clause", ("change", MARKED, 0, ())), (contract((0, 1)), body(SET)))
        self.assertEqual(levels(question), ((((), (False,)), ((), (True,))),))

    def test_against_the_slow_search(self):
        chance = random.Random(12)
        for _ in range(120):
            question = some_asked(chance, 300)
            self.assertEqual(levels(question), slow_levels(question)[0])


class Reach(Case):
    def check(self, question, picture):
        """The track ends at the picture, over as many rows as its level tells."""
        track = reach(question, picture)
        level = [n for n, level in enumerate(levels(question)) if picture in level]
        if not level:
            self.assertIsNone(track)
            return
        self.assertEqual(len(track), level[0] + 1)
        found = follow(question, track)
        self.assertEqual(len(found), len(track))
        self.assertEqual((ranks(found[-1][0]), found[-1][1]), picture)
        keys = tuple(key for keys, _ in track for key in keys)
        self.assertEqual(ranks(keys), keys)

    def test_the_example(self):
        for order in ((0, 0), (0, 1), (1, 0), (1, 1), (1, 2), (2, 1)):
            for hit in (False, True):
                self.check(QUESTION, (order, (hit,)))
        self.assertIsNone(reach(QUESTION, ((1, 1), (True,))))
        self.assertEqual(reach(QUESTION, ((1, 0), (False,))), (((1,), ()),))

    def test_keys_that_are_forgotten_keep_their_places(self):
        # The keys must fall from row to row below all earlier ones, and the last one is above 0.
        told = contract(before=(("next", ((("<", "K0", "k0"), ("<", 0, "K0")),)),))
        question = asked((1, 0), ("clause", FALSE), (told, body(THREE_KEYS)))
        counts = ((False, False), (True, False), (False, True), (True, True))
        self.assertEqual([len(level) for level in levels(question)], [1, 2, 1, 1])
        for bits in counts:
            self.check(question, ((1,), (True,) + bits))
        track = reach(question, ((1,), (True, True, True)))
        self.assertEqual([keys[0] for keys, _ in track[1:]], [3, 2, 1])

    def test_against_levels(self):
        chance = random.Random(13)
        for _ in range(60):
            question = some_asked(chance, 300)
            told = [picture for level in levels(question) for picture in level]
            for picture in told[::1 + len(told) // 8]:
                self.check(question, picture)
                keys, bits = picture
                for at in range(len(bits)):
                    self.check(question, (keys, bits[:at] + (not bits[at],) + bits[at + 1:]))


# The first three rows are counted by two flags.
THREE_KEYS = ("up", (), (False, False),
              (((("is", "f0", False),), (("f0", True),), False),
               ((("is", "f1", False),), (("f0", False), ("f1", True)), False)), ())


class Stages(Case):
    def test_the_examples(self):
        self.assertEqual(stages(QUESTION, 0), ())
        self.assertEqual(stages((LAST, 0, ("after", 0)), 1), ((((0, 0), (False,), 1), ((1, 0), (False,), 1)),))

    def test_pictures_that_are_reached_with_fewer_rows_too(self):
        question = asked((0, 1), ("clause", FALSE), (contract(), body(FIRST)))
        one = (((), (False, False), 1), ((), (True, False), 1))
        both = ((), (False, False), 1), ((), (False, True), 1), ((), (True, False), 1), ((), (True, True), 1)
        self.assertEqual(stages(question, 3), (one, both, both))

    def test_pictures_that_are_not_reached_again(self):
        question = asked((1, 0), ("after", 0), *LAST[1])
        first, second, third = stages(question, 3)
        self.assertEqual(len(first), 2)
        self.assertNotIn(((1, 0), (True,), 1), first + second)
        self.assertIn(((1, 0), (True,), 1), third)
        counted = asked((0, 1), ("clause", FALSE), (contract(before=(("each", MARKED),)), body(THREE)))
        bits = ((False, False), (True, False), (False, True), (True, True), (True, True))
        self.assertEqual(stages(counted, 5), tuple((((), one, 1),) for one in bits))

    def test_weights_for_so_many_rows(self):
        told = contract(before=(("each", UNMARKED),))
        question = asked((0, 1), ("clause", ("change", MARKED, 0, ())), (told, body(SET)))
        # A sum of as many as there are rows: each number of rows has one weight, all together do not.
        self.assertEqual(stages(question, 4), tuple((((), (), many),) for many in range(4)))
        question = asked((0, 1), ("clause", ("change", MARKED, 0, ())), (contract(), body(SET)))
        self.assertEqual(stages(question, 3), ((((), (), 0),), (((), (), None),), (((), (), None),)))

    def test_without_entries(self):
        self.assertEqual(stages(asked((0, 1), ("clause", ("names", ALWAYS)), (contract(), body())), 3), ((), (), ()))

    def test_against_the_slow_search(self):
        chance = random.Random(14)
        for _ in range(80):
            question = some_asked(chance, 250)
            rows = chance.randrange(1, 5)
            wanted = tuple(
                tuple(sorted((*picture, next(iter(some)) if len(some) == 1 else None)
                             for picture, some in level.items()))
                for level in slow_reached(question, rows - 1)
            )
            self.assertEqual(stages(question, rows), wanted)


class Decide(Case):
    def test_the_found_paper_row_by_row(self):
        found = self.holds(QUESTION)
        self.assertEqual(found, (((0, 0), (False,), 1), ((0, 1), (True,), 1), ((1, 0), (False,), 1),
                                 ((1, 1), (False,), 1), ((1, 2), (True,), 1), ((2, 1), (False,), 1)))
        found = self.holds((MARKS, 0, ("after", 0)))
        self.assertEqual(found, (((), (False, False), 0), ((), (False, True), -1),
                                 ((), (True, False), 1), ((), (True, True), 0)))

    def test_every_obligation_of_the_example(self):
        for unit, aim in ((0, ("after", 0)), (0, ("after", 1)), (1, ("falls", 1)), (1, ("after", 0))):
            self.holds((MARKS, unit, aim))
        told = self.broken((HASTY, 0, ("after", 0)), 2)
        self.assertEqual(told, (NOTHING, ((True,), (True,)), (), 0))
        self.holds((HASTY, 0, ("after", 1)))

    def clause(self, clause, *items, shape=(0, 1), before=(), takes=(0, 0)):
        return asked(shape, ("clause", clause), (contract(takes, before=before), body(*items)))

    def test_names(self):
        self.assertEqual(self.holds(self.clause(("names", ALWAYS))), ())
        self.broken(self.clause(FALSE), 0)
        lower = ("names", ((("<=", "x0", "x1"),),))
        told = self.broken(self.clause(lower, takes=(2, 0)), 0)
        self.assertEqual(told[0], ((1, 0), ()))
        self.assertEqual(self.holds(self.clause(lower, before=(lower,), takes=(2, 0))), ())
        # The greatest key is above 0, but there may be none.
        units = ((contract(gives=(1, 0), after=(("names", ((("=", "y0", 0),),)),)), body(CLIMB, keys=("n0",))),)
        self.broken(asked((1, 0), ("after", 0), *units), 1)

    def test_each(self):
        self.holds(self.clause(("each", MARKED), SET))
        self.holds(self.clause(("each", NEVER), before=(("each", NEVER), ("some", ALWAYS))))
        told = self.broken(self.clause(("each", UNMARKED), THREE), 4)
        self.assertEqual(told[1], ((True,),) * 4)
        self.broken(self.clause(("each", UNMARKED), THREE, THREE), 7)
        self.broken(self.clause(("each", SAME_MARK), SET), 1)

    def test_some(self):
        self.broken(self.clause(("some", ALWAYS)), 0)
        self.holds(self.clause(("some", MARKED), SET, before=(("some", ALWAYS),)))
        self.broken(self.clause(("some", MARKED), UNSET, before=(("some", MARKED),)), 1)
        both = (("some", MARKED), ("some", UNMARKED))
        self.broken(self.clause(("some", NEVER), before=both), 2)

    def test_next_and_pairs(self):
        for kind in ("next", "pairs"):
            told = self.broken(self.clause((kind, ASCENDING), shape=(1, 0)), 2)
            self.assertEqual(told[1], ((1,), (0,)))
            self.holds(self.clause((kind, ASCENDING), shape=(1, 0), before=(("next", ASCENDING),)))
            self.broken(self.clause((kind, NEVER), shape=(1, 0)), 2)
        unlike = ((("!=", "k0", "K0"),),)
        told = self.broken(self.clause(("pairs", unlike), shape=(1, 0), before=(("next", unlike),)), 3)
        self.assertIn(told[1], (((0,), (1,), (0,)), ((1,), (0,), (1,)), ((1,), (2,), (1,)), ((2,), (1,), (2,))))
        self.holds(self.clause(("next", unlike), shape=(1, 0), before=(("next", unlike),)))

    def test_pairs_keep_the_picked_row_over_others(self):
        # The last row is less than the first one, and all neighbours but these two ascend or have a mark.
        formula = ((("<=", "k0", "K0"),), (("is", "M0", True),))
        before = (("next", formula),)
        told = self.broken(self.clause(("pairs", ((("<=", "k0", "K0"),), (("is", "M0", True),))), shape=(1, 1),
                                       before=before), 3)
        self.assertIs(told[1][1][1], True)

    def test_change_on_no_row_on_one_and_on_several(self):
        self.broken(self.clause(("change", MARKED, 0, ((1, ALWAYS),))), 0)
        self.broken(self.clause(("change", MARKED, 0, ()), SET), 1)
        self.holds(self.clause(("change", MARKED, 0, ()), SET, before=(("each", MARKED),)))
        # Three rows are unmarked where there are as many, and 1 is due always.
        shares = ((-3, ALWAYS),)
        self.broken(self.clause(("change", MARKED, 0, shares), THREE), 0)
        told = self.broken(self.clause(("change", MARKED, 0, ()), THREE, before=(("some", MARKED),)), 1)
        self.assertEqual(told[1], ((True,),))

    def test_change_that_breaks_late(self):
        # Behind three marked rows each further one is unmarked, and the marks of the first three stay.
        late = THREE[:3] + (((("is", "m0", True), ("is", "f0", False)), (("f0", True),), False),
                            ((("is", "m0", True), ("is", "f1", False)), (("f0", False), ("f1", True)), False),
                            ((("is", "m0", True),), (("m0", False),), False))
        walk = late[:3] + (late[3:],) + ((),)
        told = self.broken(self.clause(("change", MARKED, 0, ()), walk), 4)
        self.assertEqual(told[1], ((True,),) * 4)
        self.broken(self.clause(("change", ALWAYS, 0, ((-1, NEVER), (1, ALWAYS))), walk), 0)
        self.holds(self.clause(("change", ALWAYS, 0, ()), walk))

    def test_several_weights_of_a_picture(self):
        # Nothing stands to a complete border, since before asks for a row that there is not.
        never = (("each", UNMARKED), ("some", MARKED))
        paper = self.holds(self.clause(("change", MARKED, 0, ()), SET, before=never))
        self.assertEqual(paper, (((), (False,), None),))
        # What is set by the first walk is unset by the second one, so that only its own weights are 0.
        paper = self.holds(self.clause(("change", MARKED, 0, ()), SET, UNSET, before=(("each", UNMARKED),)))
        self.assertEqual(paper, (((), (), 0),))

    def test_one_row_with_a_weight_and_one_with_none(self):
        # Before a marked row there are several sums; behind one nothing can be right any more.
        never = (("next", ((("is", "M0", False), ("is", "m0", False)),)), ("some", MARKED), ("some", UNMARKED))
        question = self.clause(("change", MARKED, 0, ()), SET, before=never)
        weights = [weight for _, _, weight in self.holds(question)]
        self.assertIn(None, weights)
        self.assertTrue(any(weight is not None for weight in weights))
        self.assertEqual(self.holds(question), slow_paper(slow_levels(question)[1]))

    def test_values(self):
        often = ("change", OFTEN, 1, ())
        swap = ("up", ("x0",), (), (((), (("r0", "k0"), ("k0", "r0")), False),), ("r0",))
        shares = ((1, ((("=", "x0", "v0"),),)), (-1, ((("=", "y0", "v0"),),)))
        units = ((contract((1, 0), (1, 0), after=(("change", OFTEN, 1, shares), often)), body(swap, keys=("n0",))),)
        self.holds(asked((1, 0), ("after", 0), *units))
        told = self.broken(asked((1, 0), ("after", 1), *units), 1)
        self.assertIn(told[3], (told[0][0][0], told[1][0][0]))
        self.assertEqual(swap, CARRY)

    def test_a_value_between_two_keys(self):
        # Only a value between x0 and x1 tells that it is not kept.
        between = ("change", NEVER, 1, ((1, ((("<", "x0", "v0"), ("<", "v0", "x1")),)),))
        told = self.broken(self.clause(between, takes=(2, 0)), 0)
        self.assertEqual((told[0][0], told[3]), ((0, 2), 1))

    def test_call(self):
        before = (("each", MARKED), ("some", MARKED), ("next", ASCENDING), ("names", GIVEN))
        called = contract((0, 1), before=before)

        def question(c, *items, bits=(True,), before=(), guard=()):
            units = ((contract((0, 1), before=before), body(*items, call(1, (), bits, guard))), (called, None))
            return asked((1, 1), ("call", len(items), c), *units)

        self.holds(question(0, SET))
        self.broken(question(0, UNSET), 1)
        self.broken(question(1, SET), 0)
        self.holds(question(1, SET, before=(("some", ALWAYS),)))
        self.broken(question(2), 2)
        self.holds(question(2, before=(("next", ASCENDING),)))
        self.assertEqual(self.holds(question(3)), ())
        told = self.broken(question(3, bits=("p0",)), 0)
        self.assertEqual(told[0], ((), (False,)))
        self.assertEqual(self.holds(question(3, bits=("p0",), guard=GIVEN[0])), ())
        told = self.broken(question(0, guard=GIVEN[0]), 1)
        self.assertEqual(told[0], ((), (True,)))

    def test_calls_that_are_answered(self):
        # Only what the contract says is known of a called unit.
        marking = contract(after=(("each", MARKED),))
        for called, clause, rows in (
            (marking, ("each", MARKED), None), (contract(), ("each", MARKED), 1),
            (contract(after=(("some", MARKED),)), ("some", MARKED), None),
            (contract(after=(("some", MARKED),)), ("each", MARKED), 2),
            (contract(after=(("next", SAME_MARK),)), ("each", MARKED), 1),
            (contract(after=(("each", NEVER),)), ("some", ALWAYS), 0),
            (contract(after=(("names", NEVER),)), ("some", ALWAYS), None),
            # Of pairs and change clauses nothing is known there.
            (contract(after=(("pairs", NEVER), ("change", MARKED, 0, ()))), ("each", SAME_MARK), 1),
        ):
            question = asked((0, 1), ("clause", clause), (contract(), body(call(1))), (called, None))
            if rows is None:
                self.holds(question)
            else:
                told = self.broken(question, rows)
                self.assertEqual(len(told[2]), 1)

    def test_calls_that_are_not_made(self):
        called = contract((0, 0), (1, 1), after=(("each", MARKED),))
        own = contract((0, 1), (1, 1), after=(("each", MARKED), ("names", ((("=", "y0", 0), ("is", "q0", False)),))))
        units = ((own, body(call(1, guard=GIVEN[0]), keys=("n0",), bits=("g0",))), (called, None))
        told = self.broken(asked((0, 1), ("after", 0), *units), 1)
        self.assertEqual((told[0], told[2]), (((), (False,)), (None,)))
        told = self.broken(asked((0, 1), ("after", 1), *units), 0)
        self.assertEqual(told[0], ((), (True,)))

    def test_keys_of_answers(self):
        # The answer gives back a key that stands between two of the table.
        called = contract((0, 0), (1, 0), after=(("some", ((("<", "k0", "y0"),),)), ("some", ((("<", "y0", "k0"),),))))
        own = contract(gives=(1, 0), after=(("some", ((("=", "k0", "y0"),),)), ("each", ((("=", "k0", "w0"),),))))
        units = ((own, body(call(1), keys=("n0",))), (called, None))
        told = self.broken(asked((1, 0), ("after", 0), *units), 2)
        self.assertEqual(keys_of(told[2][0][0]), (sorted(keys_of(told[2][0][2]))[0] + 1,))
        self.broken(asked((1, 0), ("after", 1), *units), 2)

    def test_falls(self):
        own = contract((0, 1), falls=(MARKED, 1))
        for items, rows in (((FIRST, call(0, (), (True,), (("is", "g0", True),))), None),
                            ((FIRST, call(0, (), (True,))), 0), ((UNSET, call(0, (), ("p0",))), 0),
                            ((call(0, (), ("p0",), GIVEN[0]),), 0)):
            question = asked((0, 1), ("falls", len(items) - 1), (own, body(*items)))
            if rows is None:
                self.holds(question)
            else:
                self.broken(question, rows)
        hasty = asked((0, 1), ("falls", 1), *HASTY[1][:1], (CLEAR, CLEAR_BODY), unit=1)
        self.holds(hasty)
        unset = ("up", (), (False,), (((("is", "m0", True),), (("m0", False), ("f0", True)), False),), ("f0",))
        question = asked((0, 1), ("falls", 1), (own, body(unset, call(0, (), (True,), (("is", "g0", True),)))))
        self.broken(question, 2)
        for by in (1, 2, 3):
            units = ((STEP, STEP_BODY), (CLEAR[:4] + ((MARKED, by),), CLEAR_BODY))
            question = asked((0, 1), ("falls", 1), *units, unit=1)
            if by == 1:
                self.holds(question)
            else:
                # On no row STEP may give back True, since its change clause is not asked of answers.
                self.broken(question, 0)

    def test_brackets(self):
        mine = ("change", MARKED, 0, ((-2, ALWAYS),))
        for after, rows in (((mine,), None), ((mine[:3] + (((-1, ALWAYS),),),), 0), ((), 0)):
            units = ((contract(after=(mine,)), body(call(1))), (contract(after=after), None))
            question = asked((0, 1), ("after", 0), *units)
            if rows is None:
                self.assertEqual(self.holds(question), (((), (), 0),))
            else:
                self.broken(question, rows)

    def test_seen_holds_always(self):
        for units in (TOP[1], LAST[1]):
            paper = self.holds(asked((1, 0), ("seen", ("k0", "y0"), ()), *units))
            self.assertTrue(all(weight == 0 for _, _, weight in paper))
        paper = self.holds(asked((1, 0), ("seen", ("y0",), ()), *TOP[1]))
        self.assertEqual(paper, tuple((order, (), 0) for order in ((0, 0), (0, 1), (1, 0), (1, 1), (1, 2), (2, 1))))

    def test_same(self):
        units = (*TOP[1], *LAST[1])
        self.holds(asked((1, 0), ("same", 0), *units))
        told = self.broken(asked((1, 0), ("same", 1), *units), 2)
        self.assertEqual(told[2:], ((), 0))

    def test_walks_downwards(self):
        down = ("down",) + TAKE[1:]
        first = contract(gives=(1, 0), after=(("each", ((("<=", "y0", "k0"),),)),), before=(("next", ASCENDING),))
        self.holds(asked((1, 0), ("after", 0), (first, body(down, keys=("n0",)))))
        last = first[:3] + ((("each", ((("<=", "k0", "y0"),),)),), None)
        self.broken(asked((1, 0), ("after", 0), (last, body(down, keys=("n0",)))), 2)
        self.holds(asked((1, 0), ("after", 0), (last, body(TAKE, keys=("n0",)))))

    def test_no_run_from_before(self):
        for before in ((FALSE,), (("each", NEVER), ("some", ALWAYS))):
            for clause in (FALSE, ("each", NEVER), ("some", NEVER), ("change", MARKED, 0, ((1, ALWAYS),))):
                question = self.clause(clause, SET, before=before)
                self.assertEqual(self.holds(question) == (), entries(question) == ())


def some_marking_walk(chance):
    """A walk whose rules read and set its flags and the mark; it makes one of its flags."""
    def literal():
        return ("is", chance.choice(("f0", "f1", "m0")), chance.random() < 0.5)

    def rule():
        targets = chance.sample(("f0", "f1", "m0"), chance.randrange(1, 4))
        sources = (True, False, "f0", "f1", "m0")
        return (tuple(literal() for _ in range(chance.randrange(3))),
                tuple((target, chance.choice(sources)) for target in targets), chance.random() < 0.3)

    rules = tuple(rule() for _ in range(chance.randrange(1, 5)))
    return (chance.choice(("up", "up", "down")), (), (False, False), rules, (chance.choice(("f0", "f1")),))


def some_marking(chance):
    """A sum of marks, by what walks that hand bits on give back; it is kept without rows more often."""
    items = tuple(some_marking_walk(chance) for _ in range(chance.randrange(1, 3)))
    spread = ("next", UNMARKED + ((("is", "M0", True),),))
    before = chance.choice(((), (("some", MARKED),), (("each", MARKED),), (spread,)))
    shares = tuple((chance.choice((-2, -1, 1, 2)), ((("is", chance.choice(("q0", "p0")), True),),))
                   for _ in range(chance.randrange(3)))
    own = contract((0, 1), (0, 1), before, (("change", MARKED, 0, shares),))
    return asked((0, 1), ("after", 0), (own, body(*items, bits=(f"g{chance.randrange(len(items))}",))))


class Sums(Case):
    def test_against_all_weights(self):
        # Here all weights of a picture are followed, however many there are.
        chance = random.Random(23)
        rows = {}
        for _ in range(120):
            question = some_marking(chance)
            if width(question) > 1100:
                continue
            verdict, told = decide(question)
            bad = [any(complete(question, picture) and some != {0} for picture, some in level.items())
                   for level in slow_reached(question, 4)]
            if verdict == "broken":
                self.check_told(question, told)
                self.assertEqual(bad.index(True) if True in bad else 5, min(len(told[1]), 5))
                rows[len(told[1])] = rows.get(len(told[1]), 0) + 1
            else:
                self.check_paper(question, told)
                self.assertNotIn(True, bad)
                rows[verdict] = rows.get(verdict, 0) + 1
        self.assertLessEqual({"holds", 0, 1, 2}, set(rows))


class SlowAccount(Case):
    """Verdicts against searches through all runs on few rows, and through all pictures."""

    def test_told_runs_and_papers(self):
        chance = random.Random(15)
        verdicts = {}
        for _ in range(150):
            question = some_asked(chance, 300)
            while question[2][0] == "seen":
                question = some_asked(chance, 300)
            verdict, told = decide(question)
            if verdict == "broken":
                self.check_told(question, told)
            else:
                self.check_paper(question, told)
                self.assertEqual(told, slow_paper(slow_levels(question)[1]))
            least, upto = least_broken(question, 2, 400)
            if least is not None:
                self.assertEqual((verdict, len(told[1])), ("broken", least))
            elif verdict == "broken":
                self.assertGreater(len(told[1]), upto)
            many = sum(map(len, levels(question)))
            if verdict == "broken":
                self.assertLess(len(told[1]), many * 2)
            verdicts[verdict] = verdicts.get(verdict, 0) + 1
        self.assertGreater(min(verdicts.values()), 40)


class Limits(Case):
    def doors(self, question):
        picture = (entries(question) or (((), (), 0),))[0][:2]
        return (lambda **limit: levels(question, **limit), lambda **limit: decide(question, **limit),
                lambda **limit: reach(question, picture, **limit))

    def test_the_width(self):
        for question in (QUESTION, (LAST, 0, ("after", 0)), (MARKS, 1, ("falls", 1))):
            for door in self.doors(question):
                door(limit=width(question))
                with self.assertRaises(TooWide) as caught:
                    door(limit=width(question) - 1)
                self.assertEqual(caught.exception.number, width(question))
                with self.assertRaises(TooWide):
                    door(limit=0)

    def test_stages(self):
        for rows in (1, 2, 5):
            stages(QUESTION, rows, limit=52 * rows)
            with self.assertRaises(TooWide) as caught:
                stages(QUESTION, rows, limit=52 * rows - 1)
            self.assertEqual(caught.exception.number, 52 * rows)
        self.assertEqual(stages(QUESTION, 0, limit=0), ())

    def test_no_limit_told(self):
        wide = asked((2, 0), ("clause", FALSE), (contract((2, 0)), body(CLIMB, CLIMB, CLIMB)))
        self.assertGreater(width(wide), 10000)
        for door in self.doors(wide)[:2]:
            with self.assertRaises(TooWide) as caught:
                door()
            self.assertEqual(caught.exception.number, width(wide))
        with self.assertRaises(TooWide) as caught:
            reach(wide, ((0,) * 8, ()))
        self.assertEqual(caught.exception.number, width(wide))
        self.assertEqual(stages(wide, 0), ())
        middle = asked((1, 0), ("clause", FALSE), (contract((2, 0)), body(TAKE)))
        self.assertEqual(width(middle), 1082)
        self.assertEqual(len(stages(middle, 9)), 9)
        with self.assertRaises(TooWide) as caught:
            stages(middle, 10)
        self.assertEqual(caught.exception.number, 10820)


class Asked(Case):
    def test_the_same_question_again_behind_others(self):
        chance = random.Random(16)
        told = [some_asked(chance, 400) for _ in range(30)]
        first = [decide(question) for question in told]
        self.assertEqual([decide(question) for question in told[::-1]][::-1], first)


if __name__ == "__main__":
    unittest.main()
