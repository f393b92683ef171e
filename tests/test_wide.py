"""Questions of a width near 10,000, papers of a work near 20,000, and long told runs."""

import unittest

from anylength.columns import complete, entries
from anylength.deciding import decide, levels, reach, stages
from anylength.errors import TooWide
from anylength.orders import ranks
from anylength.papers import judge, judge_stages, stages_work, work
from anylength.playing import play
from anylength.questions import layout, width
from anylength.tracks import follow, path, told_run
from tests.short import ALWAYS, ASCENDING, MARKED, OFTEN, UNMARKED, asked, body, call, contract

# A walk that hands the marks on: each row gets the mark of the second one ahead of it.
SHIFT = ("up", (), (False, False), (((), (("f0", "m0"), ("f1", "f0"), ("m0", "f1")), False),), ())


def counter(literals, others, direction="up", carry=()):
    """A walk whose two flags count the rows up to 4, and then from 0 again.

    Rows of which one of the literals holds are not counted. `others` are the
    assignments at all rows but those at which it begins again, `carry` those there.
    """
    rules = [((literal,), others, False) for literal in literals]
    rules += [((("is", "f0", False),), (("f0", True),) + others, False),
              ((("is", "f1", False),), (("f0", False), ("f1", True)) + others, False),
              ((), (("f0", False), ("f1", False)) + carry, False)]
    return (direction, (), (False, False), tuple(rules), ())


def carrying(*directions):
    """Walks of which the last one marks the rows 4, 16 or 64, and twice as many and so on, alone."""
    first = counter((), (("m0", False),), directions[0], (("m0", True),))
    return (first, *(counter((("is", "m0", False),), (("m0", False),), direction, (("m0", True),))
                     for direction in directions[1:]))


class Wide(unittest.TestCase):
    def near(self, question, low):
        """The verdict of a question whose width is from `low` to 10,000, with what is told of it."""
        self.assertLessEqual(low, width(question))
        self.assertLessEqual(width(question), 10000)
        self.assertEqual(stages(question, 1), (entries(question),))
        with self.assertRaises(TooWide):
            decide(question, limit=width(question) - 1)
        return decide(question, limit=width(question))

    def holds(self, question, low, most):
        """The found paper of a question that holds, and of which so many pictures are reached."""
        verdict, paper = self.near(question, low)
        self.assertEqual(verdict, "holds")
        told = levels(question)
        self.assertGreaterEqual(len(paper), most)
        self.assertEqual(tuple(sorted(one for level in told for one in level)), tuple(row[:2] for row in paper))
        self.assertIsNone(judge(question, paper))
        for at in (0, len(paper) // 2, len(paper) - 1):
            self.assertIsNotNone(judge(question, paper[:at] + paper[at + 1:]))
        self.check_reach(question, told)
        return paper

    def check_reach(self, question, told):
        """The last pictures are reached with as many rows as their levels tell."""
        for picture in told[-1][-2:]:
            track = reach(question, picture)
            self.assertEqual(len(track), len(told))
            border = follow(question, track)[-1]
            self.assertEqual((ranks(border[0]), border[1]), picture)

    def check_work(self, question, paper, low):
        """A paper whose work is near 20,000 is taken at this limit, and told to be too wide below."""
        number = work(question, paper)
        self.assertLessEqual(low, number)
        self.assertLessEqual(number, 20000)
        self.assertIsNone(judge(question, paper))
        self.assertIsNone(judge(question, paper, limit=number))
        with self.assertRaises(TooWide) as caught:
            judge(question, paper, limit=number - 1)
        self.assertEqual(caught.exception.number, number)

    def registers(self, clause, before, source="f1"):
        """Three walks that hand the first marks on, so that their flags are six earlier ones of them."""
        told = contract((0, 1), (0, 1), before=before, after=(clause,))
        last = SHIFT[:3] + ((((), (("f0", "m0"), ("f1", "f0"), ("m0", source)), False),), ())
        items = (SHIFT[:4] + (("f1",),), SHIFT[:4] + (("f0", "f1"),), last)
        return asked((0, 2), ("after", 0), (told, body(*items, bits=("g1",))))

    def test_bits_of_which_all_are_reached(self):
        marked = (("some", ((("is", "m1", True),),)),)
        question = self.registers(("change", ALWAYS, 0, ()), marked)
        self.assertEqual((width(question), len(layout(question)[1])), (8192, 11))
        paper = self.holds(question, 8192, 2 ** 11)
        self.assertEqual({row[2] for row in paper}, {0})
        self.check_work(question, paper * 2, 16400)
        double = paper + tuple((*row[:2], 1) for row in paper)
        ends = [at for at, row in enumerate(paper) if complete(question, row[:2])]
        self.assertEqual(judge(question, double), ("end", len(paper) + ends[0]))

    def test_bits_with_a_goal(self):
        # It is hit if the second mark is there, which plays no part in what is given back.
        question = self.registers(("each", ((("is", "q0", True),), (("is", "m1", False),))), ())
        self.assertEqual((width(question), len(layout(question)[1])), (8192, 11))
        told = levels(question)
        self.assertEqual(sum(map(len, told)), 8 * (64 + 128))
        self.check_reach(question, told)
        verdict, told = self.near(question, 8192)
        self.assertEqual((verdict, len(told[1])), ("broken", 1))
        held = self.registers(question[0][1][0][0][3][0], (("some", ()),))
        verdict, paper = decide(held, limit=20000)
        self.assertEqual((verdict, len(paper)), ("holds", 8 * (64 + 128)))

    def test_bits_of_a_sum(self):
        # Nothing is complete, since no row is what before asks for. The marks that the flags hold are missing.
        question = self.registers(("change", MARKED, 0, ()), (("some", ()),))
        paper = self.holds(question, 8192, 2 ** 10)
        for _, bits, weight in paper:
            self.assertEqual(weight, -sum(bits[-6:]))
        # All rows are marked in the end, so that with most pictures there are many weights.
        question = self.registers(("change", MARKED, 0, ()), (("some", ()),), True)
        paper = self.holds(question, 8192, 2 ** 10)
        self.assertGreater(sum(row[2] is None for row in paper), 900)
        question = self.registers(("change", MARKED, 0, ()), (("some", MARKED),))
        verdict, told = self.near(question, 8192)
        self.assertEqual((verdict, len(told[1])), ("broken", 1))

    def test_keys_of_a_sum_with_a_value(self):
        # The keys are carried up by one row, and what stood in the register before is held, too.
        walk = ("up", ("x0", 0), (), (((), (("r0", "k0"), ("k0", "r0"), ("r1", "r0")), False),), ("r0",))
        shares = ((1, ((("=", "x0", "v0"),),)), (-1, ((("=", "y0", "v0"),),)))
        told = contract((1, 0), (1, 0), after=(("change", OFTEN, 1, shares), ("change", OFTEN, 1, ())))
        question = asked((1, 0), ("after", 0), (told, body(walk, keys=("n0",))))
        self.assertEqual(width(question), 9366)
        paper = self.holds(question, 9366, 1000)
        self.assertNotIn(None, [row[2] for row in paper])
        self.check_work(question, paper + tuple((*row[:2], row[2]) for row in paper), 18000)
        verdict, told = self.near((question[0], 0, ("after", 1)), 9366)
        self.assertEqual((verdict, len(told[1])), ("broken", 1))
        self.assertEqual(play((question[0], 0, ("after", 1)), told)[0], "broken")

    def test_keys_with_a_goal(self):
        walk = ("up", ("x0", 0), (False,), (((("<", "r0", "k0"),), (("r0", "k0"), ("r1", "r0"), ("f0", True)), False),),
                ("r0", "f0"))
        clause = ("each", ((("<=", "k0", "y0"),),))
        told = contract((1, 0), (1, 0), after=(clause,))
        question = asked((1, 0), ("after", 0), (told, body(walk, keys=("n0",))))
        self.assertEqual(width(question), 8656)
        self.holds(question, 8656, 60)
        lower = asked((1, 0), ("clause", ("each", ((("<", "k0", "y0"),),))), *question[0][1])
        verdict, told = self.near(lower, 8656)
        self.assertEqual((verdict, len(told[1])), ("broken", 1))

    def test_ghosts(self):
        sorting = contract(after=(("next", ASCENDING),))
        flags = ("up", (), ("p0", False), (((("=", "k0", 0),), (("f1", True), ("f0", "f1")), False),), ())
        units = ((contract((0, 1), after=(("next", ASCENDING),)), body(flags, call(1))), (sorting, None))
        question = asked((1, 0), ("after", 0), *units)
        self.assertEqual(width(question), 9600)
        self.holds(question, 9600, 12)
        units = ((contract((0, 1), after=(("next", ((("<", "k0", "K0"),),)),)), units[0][1]), units[1])
        verdict, told = self.near(asked((1, 0), ("after", 0), *units), 9600)
        self.assertEqual((verdict, len(told[1])), ("broken", 2))

    def test_walks_downwards(self):
        down = ("down", (0,), (False,), (((("<", "r0", "k0"),), (("r0", "k0"), ("f0", True)), False),), ("r0",))
        told = contract((1, 0), (1, 0), after=(("each", ((("<=", "k0", "y0"),),)),))
        question = asked((1, 0), ("after", 0), (told, body(down, keys=("n0",))))
        self.assertEqual(width(question), 1082 * 8)
        self.holds(question, 8656, 30)


class Long(unittest.TestCase):
    """Told runs on many rows."""

    def broken(self, question, rows):
        verdict, told = decide(question)
        self.assertEqual((verdict, len(told[1])), ("broken", rows))
        self.assertEqual(play(question, told), ("broken", ("row", rows - 1)))
        track = path(question, told)
        found = follow(question, track)
        self.assertEqual((len(found), told_run(question, track)), (rows + 1, told))
        self.assertTrue(complete(question, found[-1][:2]))
        return told

    def test_walks_upwards(self):
        for many in (1, 2, 3):
            question = asked((0, 1), ("clause", ("each", UNMARKED)), (contract(), body(*carrying(*["up"] * many))))
            self.broken(question, 4 ** many)

    def test_walks_downwards(self):
        question = asked((0, 1), ("clause", ("each", UNMARKED)), (contract(), body(*carrying("down", "down"))))
        verdict, told = decide(question)
        self.assertEqual((verdict, len(told[1])), ("broken", 16))
        self.assertEqual(play(question, told), ("broken", ("row", 0)))

    def test_keys_that_fall(self):
        falling = ("next", ((("<", "K0", "k0"),),))
        question = asked((1, 1), ("clause", ("each", UNMARKED)),
                         (contract(before=(falling,)), body(*carrying("up", "up", "up"))))
        told = self.broken(question, 64)
        keys = [row[0] for row in told[1]]
        self.assertIn(keys, (list(range(63, -1, -1)), list(range(64, 0, -1))))

    def test_a_sum(self):
        # Sixteen rows, all of them marked ahead of the body, and one behind it.
        question = asked((0, 1), ("clause", ("change", MARKED, 0, ())),
                         (contract(before=(("each", UNMARKED),)), body(*carrying("up", "up"))))
        verdict, told = decide(question)
        self.assertEqual((verdict, len(told[1])), ("broken", 16))
        self.assertEqual(play(question, told), ("broken", ("sum", 1, 0)))

    def test_stages_over_many_rows(self):
        question = asked((0, 1), ("clause", ("each", UNMARKED)), (contract(), body(*carrying("up", "up"))))
        told = stages(question, 12)
        self.assertEqual([len(paper) for paper in told], [1] * 12)
        self.assertIsNone(judge_stages(question, told))
        self.assertEqual(stages_work(question, told), 1 + 11 * 2)
        with self.assertRaises(TooWide):
            stages(question, 12, limit=width(question) * 12 - 1)


if __name__ == "__main__":
    unittest.main()
