"""Papers and the judge: [200] to [205]."""

import random
import unittest

from anylength import papers as module
from anylength.columns import entries
from anylength.deciding import decide, stages
from anylength.errors import TooWide
from anylength.orders import count_extensions, count_orders
from anylength.questions import guessed, layout, width
from tests.every import slow_judge, slow_stages_judge
from tests.short import (
    ALWAYS, ASCENDING, LAST, MARKED, MARKS, NEVER, SET, THREE, TOP, UNMARKED, UNSET, asked, body, call, contract,
)
from tests.some import some_asked
from tests.support import asked as twice

work = twice(module.work)
stages_work = twice(module.stages_work)
judge = twice(module.judge)
judge_stages = twice(module.judge_stages)

FALSE = ("names", NEVER)
QUESTION = (TOP, 0, ("after", 0))
PAPER = decide(QUESTION)[1]
UNSUM = asked((0, 1), ("clause", ("change", MARKED, 0, ())), (contract(), body(SET)))
# All rows are unmarked, so that no weight but 0 is reached, over any number of rows.
STILL = asked((0, 1), ("clause", ("change", MARKED, 0, ())),
              (contract(before=(("each", UNMARKED),)), body(UNSET)))
# On four marked rows one is left.
FOURTH = asked((0, 1), ("after", 0), (contract(after=(("each", UNMARKED),)), body(THREE)))


class Work(unittest.TestCase):
    def test_papers(self):
        self.assertEqual(work(QUESTION, ()), 2)
        self.assertEqual(work(QUESTION, PAPER), 28)
        self.assertEqual(work(QUESTION, PAPER[:1]), 2 + 2)
        self.assertEqual(work(QUESTION, PAPER[2:3] * 3), 2 + 3 * 4)
        self.assertEqual(work(QUESTION, (((1, 2), (True,), None), ((2, 1), (False,), -100))), 2 + 6 + 6)

    def test_bits_and_several_keys(self):
        units = ((contract((1, 1)), body(call(1), ("down", (0,), (True, False), (), ()))),
                 (contract((0, 0), (1, 0)), None))
        question = asked((1, 2), ("clause", ("pairs", ASCENDING)), *units)
        # Entering: x0, n0, r0 and p0, two flags; in a column two rows, r0 and the flags, and the pick.
        self.assertEqual([len(one) for pair in guessed(question) for one in pair], [3, 3, 3, 7])
        self.assertEqual(len(layout(question)[0]), 4)
        row = ((0, 2, 1, 2), (False,) * 5, 1)
        first = count_orders(3) * 8
        self.assertEqual(work(question, ()), first)
        self.assertEqual(work(question, (row,)), first + count_extensions((1, 2), 3) * 128)
        self.assertEqual(stages_work(question, ((row,), (row, row))), first + count_extensions((1, 2), 3) * 128)

    def test_stages(self):
        self.assertEqual(stages_work(QUESTION, ()), 0)
        self.assertEqual(stages_work(QUESTION, (PAPER,)), 2)
        self.assertEqual(stages_work(QUESTION, (PAPER, PAPER)), 28)
        self.assertEqual(stages_work(QUESTION, (PAPER[:1], PAPER, ())), 2 + 2 + 26)
        self.assertEqual(stages_work(QUESTION, ((), (), ())), 2)

    def test_of_found_papers(self):
        chance = random.Random(2)
        for _ in range(60):
            question = some_asked(chance, 1000)
            verdict, paper = decide(question)
            if verdict == "holds":
                self.assertLessEqual(work(question, paper), 2 * width(question))


class Complaints(unittest.TestCase):
    """Each complaint, and which one comes first."""

    def test_form(self):
        right = PAPER[0]
        for wrong in (((0,), (False,), 1), ((0, 0, 0), (False,), 1), ((0, 0), (), 1), ((0, 0), (False, True), 1),
                      ((0, 2), (False,), 1), ((2, 2), (False,), 1), ((1, 3), (False,), 1), ((), (), None)):
            for i in range(3):
                paper = (right,) * i + (wrong,) + (right, wrong)
                self.assertEqual(judge(QUESTION, paper), ("form", i))
                self.assertEqual(judge(QUESTION, paper, limit=0), ("form", i))

    def test_form_comes_ahead_of_the_start_and_of_rows(self):
        wrong = ((0, 2), (False,), 1)
        bad = ((1, 1), (True,), 1)
        self.assertEqual(judge(QUESTION, (bad, wrong)), ("form", 1))
        self.assertEqual(judge(QUESTION, PAPER + (wrong,)), ("form", 6))

    def test_start(self):
        self.assertEqual(judge(QUESTION, ()), ("start", ((0, 0), (False,), 1)))
        self.assertEqual(judge(QUESTION, PAPER[:1]), ("start", ((1, 0), (False,), 1)))
        self.assertEqual(judge(QUESTION, PAPER[1:]), ("start", ((0, 0), (False,), 1)))
        bad = (((1, 1), (True,), 1),)
        self.assertEqual(judge(QUESTION, bad), ("start", ((0, 0), (False,), 1)))
        other = (((0, 0), (False,), 2), ((1, 0), (False,), 1))
        self.assertEqual(judge(QUESTION, other), ("start", ((0, 0), (False,), 1)))

    def test_the_least_entry(self):
        question = (MARKS, 0, ("after", 0))
        found = entries(question)
        self.assertEqual(found, (((), (False, False), 0), ((), (True, False), 1)))
        self.assertEqual(judge(question, ()), ("start", found[0]))
        self.assertEqual(judge(question, found[:1]), ("start", found[1]))
        self.assertEqual(judge(question, (((), (False, False), None),)), ("start", found[1]))

    def test_end(self):
        for i in range(len(PAPER) + 1):
            for weight in (1, -1, 100, None):
                paper = PAPER[:i] + (((1, 1), (True,), weight),) + PAPER[i:]
                self.assertEqual(judge(QUESTION, paper), ("end", i))
        # The weight 0 is no matter there, but what is behind such a row has this weight.
        paper = PAPER + (((1, 1), (True,), 0),)
        self.assertEqual(judge(QUESTION, paper), ("column", 6, ((1, 2), (True,), 0)))

    def test_column(self):
        self.assertEqual(judge(QUESTION, PAPER[:5]), ("column", 2, ((2, 1), (False,), 1)))
        self.assertEqual(judge(QUESTION, PAPER[:1] + PAPER[2:]), ("column", 0, ((0, 1), (True,), 1)))
        paper = PAPER[:5] + (((2, 1), (False,), 2),)
        self.assertEqual(judge(QUESTION, paper), ("column", 2, ((2, 1), (False,), 1)))

    def test_the_least_row_behind(self):
        start = (((0, 0), (False,), 1), ((1, 0), (False,), 1))
        self.assertEqual(judge(QUESTION, start), ("column", 0, ((0, 1), (True,), 1)))
        self.assertEqual(judge(QUESTION, start[::-1]), ("column", 0, ((1, 1), (False,), 1)))

    def test_rows_in_their_order_the_end_ahead_of_the_columns(self):
        bad = ((1, 1), (True,), 1)
        self.assertEqual(judge(QUESTION, (bad,) + PAPER[:3]), ("end", 0))
        self.assertEqual(judge(QUESTION, PAPER[:3] + (bad,)), ("column", 2, ((1, 1), (False,), 1)))
        self.assertEqual(judge(UNSUM, (((), (), 0),)), ("column", 0, ((), (), 1)))
        # Row 0 has all behind it listed now; row 1 is both bad and without what is behind it.
        self.assertEqual(judge(UNSUM, (((), (), 0), ((), (), 1))), ("end", 1))

    def test_sums(self):
        self.assertEqual(judge(UNSUM, (((), (), None), ((), (), 0))), ("end", 0))
        self.assertEqual(judge(STILL, (((), (), 0),)), None)
        self.assertEqual(judge(STILL, (((), (), 1),)), ("start", ((), (), 0)))
        self.assertEqual(judge(STILL, (((), (), None),)), ("end", 0))

    def test_limits(self):
        self.assertIsNone(judge(QUESTION, PAPER, limit=28))
        for paper, number in ((PAPER, 28), (PAPER[:2], 8), ((), 2)):
            with self.assertRaises(TooWide) as caught:
                judge(QUESTION, paper, limit=number - 1)
            self.assertEqual(caught.exception.number, number)
            judge(QUESTION, paper, limit=number)

    def test_the_limit_that_is_not_told(self):
        down = ("down", (0, 0), (False,), (), ())
        question = asked((1, 0), ("clause", FALSE), (contract((2, 0)), body(down, down)))
        with self.assertRaises(TooWide) as caught:
            judge(question, ())
        self.assertEqual(caught.exception.number, count_orders(6) * 4)
        question = asked((1, 0), ("clause", FALSE), (contract((2, 0)), body(down, down[:1] + ((0, 0), (), (), ()))))
        self.assertEqual(judge(question, ())[0], "start")


class Taken(unittest.TestCase):
    def test_rows_twice_out_of_order_and_more_than_needed(self):
        self.assertIsNone(judge(QUESTION, PAPER * 3))
        self.assertIsNone(judge(QUESTION, PAPER[::-1]))
        other = tuple((*row[:2], 2) for row in PAPER)
        self.assertIsNone(judge(QUESTION, PAPER + other))
        # Pictures that no run reaches are taken, too, if what is behind them is listed.
        apart = ((1, 2), (False,), 1)
        self.assertNotIn(apart, PAPER)
        self.assertIsNone(judge(QUESTION, PAPER + (apart,)))
        apart = ((1, 0), (True,), 1)
        self.assertEqual(judge(QUESTION, PAPER + (apart,)), ("column", 6, ((1, 1), (True,), 1)))

    def test_none_lists_every_weight(self):
        self.assertIsNone(judge(QUESTION, tuple((*row[:2], None) for row in PAPER)))
        for i in range(len(PAPER)):
            wide = PAPER[:i] + ((*PAPER[i][:2], None),) + PAPER[i + 1:]
            found = judge(QUESTION, wide)
            # Behind the row with the weight None only None will do; (2, 1) and (1, 2) go on to all.
            if found is not None:
                self.assertEqual((found[0], found[1], found[2][2]), ("column", i, None))
            both = PAPER + tuple((*row[:2], None) for row in PAPER)
            self.assertIsNone(judge(QUESTION, both))

    def test_none_is_listed_by_none_alone(self):
        paper = (((0, 0), (False,), None), ((1, 0), (False,), 1), *PAPER)
        self.assertEqual(judge(QUESTION, paper), ("column", 0, ((0, 1), (True,), None)))

    def test_the_found_paper_and_none_of_its_rows_left_out(self):
        chance = random.Random(8)
        held = 0
        while held < 60:
            question = some_asked(chance, 600)
            verdict, paper = decide(question)
            if verdict != "holds" or len(paper) > 60:
                continue
            held += 1
            self.assertIsNone(judge(question, paper))
            for i in range(len(paper)):
                self.assertIsNotNone(judge(question, paper[:i] + paper[i + 1:]))
            self.assertIs(judge(question, ()) is None, entries(question) == ())
            self.assertIs(paper == (), entries(question) == ())

    def test_the_empty_paper(self):
        self.assertIsNone(judge(asked((0, 1), ("clause", ("names", ALWAYS)), (contract(), body())), ()))
        never = asked((0, 1), ("clause", FALSE), (contract(before=(FALSE,)), body()))
        self.assertIsNone(judge(never, ()))
        self.assertIsNone(judge_stages(never, ((), (), ())))
        self.assertEqual(judge(never, (((), (), None),)), ("end", 0))


class Stages(unittest.TestCase):
    def test_no_papers(self):
        for question in (QUESTION, (LAST, 0, ("after", 0)), UNSUM):
            self.assertIsNone(judge_stages(question, ()))
            self.assertIsNone(judge_stages(question, (), limit=0))

    def test_form(self):
        wrong = ((0, 2), (False,), 1)
        for n in range(3):
            for i in (0, 2):
                papers = (PAPER,) * n + (PAPER[:i] + (wrong, wrong),) + (PAPER, (wrong,))
                self.assertEqual(judge_stages(QUESTION, papers), ("form", n, i))
                self.assertEqual(judge_stages(QUESTION, papers, limit=0), ("form", n, i))
        self.assertEqual(judge_stages(QUESTION, ((), (wrong,))), ("form", 1, 0))

    def test_start(self):
        for papers in (((),), ((), PAPER), (PAPER[1:], PAPER, PAPER)):
            self.assertEqual(judge_stages(QUESTION, papers), ("start", ((0, 0), (False,), 1)))
        self.assertEqual(judge_stages(QUESTION, (PAPER[:1], PAPER)), ("start", ((1, 0), (False,), 1)))

    def test_end_and_column(self):
        one, two, three = stages((LAST, 0, ("after", 0)), 3)
        question = (LAST, 0, ("after", 0))
        self.assertIsNone(judge_stages(question, (one,)))
        self.assertIsNone(judge_stages(question, (one, two)))
        self.assertEqual(judge_stages(question, (one, two, three)), ("end", 2, 1))
        self.assertEqual(judge_stages(question, (one, two[1:])), ("column", 0, 0, two[0]))
        self.assertEqual(judge_stages(question, (one, two, ())), ("column", 1, 0, three[0]))
        self.assertEqual(judge_stages(question, (one, two + three, three)), ("end", 1, len(two) + 1))

    def test_the_last_paper_has_nothing_behind_it(self):
        start = entries(QUESTION)
        self.assertIsNone(judge_stages(QUESTION, (start,)))
        self.assertEqual(judge_stages(QUESTION, (start, start)), ("column", 0, 0, ((0, 1), (True,), 1)))
        self.assertIsNone(judge_stages(QUESTION, (start, PAPER)))
        self.assertEqual(judge_stages(QUESTION, (start + (((1, 1), (True,), 1),),)), ("end", 0, 2))

    def test_several_rows_without_a_break(self):
        told = stages(FOURTH, 5)
        for many in range(5):
            self.assertIsNone(judge_stages(FOURTH, told[:many]))
        self.assertEqual(judge_stages(FOURTH, told)[:2], ("end", 4))
        for n in range(4):
            for i in range(len(told[n])):
                less = told[:n] + (told[n][:i] + told[n][i + 1:],) + told[n + 1:]
                found = judge_stages(FOURTH, less[:4])
                if n == 0:
                    self.assertEqual(found, ("start", told[0][i]))
                else:
                    self.assertEqual((found[:2], found[3]), (("column", n - 1), told[n][i]))

    def test_limits(self):
        self.assertIsNone(judge_stages(QUESTION, (PAPER, PAPER), limit=28))
        with self.assertRaises(TooWide) as caught:
            judge_stages(QUESTION, (PAPER, PAPER), limit=27)
        self.assertEqual(caught.exception.number, 28)
        with self.assertRaises(TooWide) as caught:
            judge_stages(QUESTION, ((),), limit=1)
        self.assertEqual(caught.exception.number, 2)
        self.assertIsNone(judge_stages(QUESTION, (PAPER,), limit=2))


class SlowAccount(unittest.TestCase):
    def changed(self, chance, paper):
        """The paper with some rows left out, with other weights, or in another order."""
        rows = list(paper)
        for _ in range(chance.randrange(4)):
            if not rows:
                break
            at = chance.randrange(len(rows))
            kind = chance.randrange(5)
            if kind == 0:
                rows.pop(at)
            elif kind == 1:
                rows[at] = (*rows[at][:2], chance.choice((None, 0, 1, -1)))
            elif kind == 2:
                rows.append((*rows[at][:2], chance.choice((None, 0, 1, -1))))
            elif kind == 3:
                rows = [(*row[:2], None) for row in rows]
            else:
                chance.shuffle(rows)
        return tuple(rows)

    def test_judge(self):
        chance = random.Random(9)
        words = {}
        for _ in range(250):
            question = some_asked(chance, 300)
            paper = stages(question, 3)[2] if decide(question)[0] == "broken" else decide(question)[1]
            paper = self.changed(chance, paper)
            found = module.judge(question, paper)
            self.assertEqual(repr(found), repr(slow_judge(question, paper)))
            words[found and found[0]] = words.get(found and found[0], 0) + 1
        self.assertGreater(min(words.values()), 10)
        self.assertEqual(set(words), {None, "start", "end", "column"})

    def test_judge_stages(self):
        chance = random.Random(10)
        words = {}
        for _ in range(120):
            question = some_asked(chance, 200)
            told = tuple(self.changed(chance, one) if chance.random() < 0.4 else one
                         for one in stages(question, chance.randrange(1, 4)))
            found = module.judge_stages(question, told)
            self.assertEqual(repr(found), repr(slow_stages_judge(question, told)))
            words[found and found[0]] = words.get(found and found[0], 0) + 1
        self.assertEqual(set(words), {None, "start", "end", "column"})


if __name__ == "__main__":
    unittest.main()
