"""Runs: [120] to [123], and [25] where it speaks of runs."""

import random
import unittest

from anylength import runs as module
from anylength.contracts import answer_fault, ends
from anylength.errors import NoBody, TooLong
from anylength.libraries import bound
from tests.making import some_library, some_pair
from tests.slow import Ended, back, slow_run, slow_told
from tests.support import asked, some_table

run = asked(module.run)
traced = asked(module.traced)
answered = asked(module.answered)

NOTHING = ((), ())
NEVER = (("<", 0, 0),)
SET = ("up", (), (), (((), (("m0", True),), False),), ())
TURN = ("up", (), (), (((("is", "m0", True),), (("m0", False),), False),
                       ((), (("m0", True),), False)), ())
# It unmarks the first marked row, and tells whether there was one.
UNMARK = ("up", (), (False,), (((("is", "m0", True), ("is", "f0", False)),
                                (("m0", False), ("f0", True)), False),), ("f0",))


def contract(takes=(0, 0), gives=(0, 0), after=()):
    return (takes, gives, (), after, None)


def calls(*called, guard=()):
    return (tuple(("call", unit, (), (), guard) for unit in called), (), ())


def library(*bodies):
    return ((0, 1), tuple((contract(), body) for body in bodies))


class Case(unittest.TestCase):
    def fails(self, error, wanted, *args, function=run, **named):
        with self.assertRaises(error) as caught:
            function(*args, **named)
        told = caught.exception
        self.assertEqual(told.unit if error is NoBody else told.most, wanted)

    def begins(self, told, wanted, table=(), givens=NOTHING, unit=0):
        """The run of a unit in which so many units begin, at each limit."""
        for function in (run, traced):
            for most in (wanted, wanted + 1, 40):
                if most <= 40:
                    function(told, unit, givens, table, most=most)
            for most in {1, wanted - 1} - {0, wanted}:
                self.fails(TooLong, most, told, unit, givens, table, function=function, most=most)
            if wanted > 20:
                self.fails(TooLong, 20, told, unit, givens, table, function=function)
            else:
                function(told, unit, givens, table)


class Run(Case):
    def test_without_items(self):
        told = ((1, 1), ((contract((2, 1), (2, 1)), ((), ("x1", 0), ("p0",))),))
        table = ((3, True),)
        self.assertEqual(run(told, 0, ((8, 9), (True,)), table), (((9, 0), (True,)), table))
        self.assertEqual(traced(told, 0, ((8, 9), (False,)), table),
                         (((9, 0), (False,)), table, ()))

    def test_walks_alone(self):
        walk = ("up", ("x0",), (False,), (((("<", "r0", "k0"),), (("r0", "k0"), ("k0", "r0"),
                                           ("f0", True)), False),), ("r0", "f0"))
        back_down = ("down", ("n0",), ("g0",), (((), (("k0", "r0"), ("m0", "f0")), False),), ())
        body = ((walk, back_down), ("n0", "x0"), ("g0",))
        told = ((1, 1), ((contract((1, 0), (2, 1)), body),))
        found = run(told, 0, ((4,), ()), ((5, False), (3, False), (6, False)))
        self.assertEqual(found, (((6, 4), (True,)), ((6, True),) * 3))
        self.assertEqual(run(told, 0, ((4,), ()), ((3, True),)), (((4, 4), (False,)), ((4, False),)))
        self.assertEqual(run(told, 0, ((4,), ()), ()), (((4, 4), (False,)), ()))

    def test_items_one_after_another(self):
        for items, wanted in (((SET, TURN), False), ((TURN, SET), True), ((TURN, TURN), False),
                              ((TURN, TURN, TURN), True)):
            told = library((items, (), ()))
            self.assertEqual(run(told, 0, NOTHING, ((False,),) * 2), (NOTHING, ((wanted,),) * 2))

    def test_what_is_passed_and_what_comes_back(self):
        swap = ((), ("x1", "x0"), ("p0",))
        body = ((("call", 1, ("x0", 0), (True,), ()), ("call", 1, ("n1", "n0"), ("g0",), ())),
                ("n2", "n3"), ("g1",))
        told = ((1, 0), ((contract((1, 0), (2, 1)), body), (contract((2, 1), (2, 1)), swap)))
        self.assertEqual(traced(told, 0, ((7,), ()), ()), (((0, 7), (True,)), (), (
            ((0, 7), (True,), ()), ((0, 7), (True,), ()))))

    def test_calls_that_are_not_made(self):
        maker = ((), (0, "x0"), (True,))
        body = ((SET, ("call", 1, ("x0",), (), NEVER), TURN), ("n0", "n1"), ("g0",))
        told = ((0, 1), ((contract((1, 0), (2, 1)), body), (contract((1, 0), (2, 1)), maker)))
        found = traced(told, 0, ((7,), ()), ((False,),))
        self.assertEqual(found, (((0, 0), (False,)), ((False,),), (None,)))

    def test_a_call_that_is_not_made_needs_no_body(self):
        told = library(calls(1, guard=NEVER), None)
        self.assertEqual(traced(told, 0, NOTHING, ((True,),)), (NOTHING, ((True,),), (None,)))
        self.begins(told, 1)

    def test_calls_to_several_depths(self):
        told = library(calls(1, 2), calls(2, 2), calls(3), ((TURN,), (), ()))
        self.assertEqual(run(told, 0, NOTHING, ((True,),)), (NOTHING, ((False,),)))
        self.begins(told, 8, ((True,), (False,)))
        found = traced(told, 0, NOTHING, ((True,),))[2]
        self.assertEqual(found, (((), (), ((True,),)), ((), (), ((False,),))))

    def test_a_unit_that_calls_itself(self):
        again = ("call", 0, (), (), (("is", "g0", True),))
        told = library(((UNMARK, again), (), ()))
        for rows in (0, 1, 4, 12):
            table = ((True,),) * rows
            self.assertEqual(run(told, 0, NOTHING, table), (NOTHING, ((False,),) * rows))
            self.begins(told, rows + 1, table)
        found = traced(told, 0, NOTHING, ((True,), (True,), (False,)))
        self.assertEqual(found[2], (((), (), ((False,),) * 3),))

    def test_a_unit_that_never_ends(self):
        told = library(calls(0))
        for most in (1, 2, 20, 39, 40):
            self.fails(TooLong, most, told, 0, NOTHING, (), most=most)
            self.fails(TooLong, most, told, 0, NOTHING, (), function=traced, most=most)
        self.fails(TooLong, 20, told, 0, NOTHING, ())


class Clear(Case):
    """The units STEP and CLEAR of [147]."""

    def test_clear_and_step_begin_four_times_each(self):
        marked = ((("is", "m0", True),),)
        fewer = ("change", marked, 0, ((-1, ((("is", "q0", True),),)),))
        step = contract((0, 0), (0, 1), (fewer,))
        clear = (*contract(after=(("each", ((("is", "m0", False),),)),))[:4], (marked, 1))
        items = (("call", 0, (), (), ()), ("call", 1, (), (), (("is", "g0", True),)))
        told = ((0, 1), ((step, ((UNMARK,), (), ("g0",))), (clear, (items, (), ()))))
        for rows in range(6):
            self.assertEqual(bound(told, 1, rows), 2 * rows + 2)
            self.begins(told, 2 * rows + 2, ((True,),) * rows, unit=1)
        begun = slow_run(told, 1, NOTHING, ((True,),) * 3, 40)[3]
        self.assertEqual(begun, (1, 0) * 4)
        self.assertEqual(run(told, 1, NOTHING, ((True,), (False,), (True,)))[1], ((False,),) * 3)


class Limits(Case):
    def test_no_body(self):
        told = library(None, calls(0), calls(1), calls())
        for unit in (0, 1, 2):
            for function in (run, traced):
                self.fails(NoBody, 0, told, unit, NOTHING, (), function=function, most=40)
        run(told, 3, NOTHING, ())

    def test_no_body_ahead_of_too_long_each_time(self):
        # The unit that is to begin behind the last one that may has no body.
        told = library(calls(1, 2), calls(), None)
        self.fails(NoBody, 2, told, 0, NOTHING, (), most=2)
        self.fails(TooLong, 1, told, 0, NOTHING, (), most=1)
        self.fails(NoBody, 2, told, 0, NOTHING, (), most=3)
        told = library(calls(1, 2), calls(3), None, calls())
        self.fails(TooLong, 2, told, 0, NOTHING, (), most=2)
        self.fails(NoBody, 2, told, 0, NOTHING, (), most=3)
        self.fails(NoBody, 2, told, 2, NOTHING, (), most=1)

    def test_left_out_it_is_20(self):
        # Each row that is unmarked lets two units begin.
        again = ("call", 0, (), (), (("is", "g0", True),))
        told = library(((UNMARK, again, again), (), ()), calls(0))
        for rows in (0, 1, 3, 9, 10, 12):
            self.begins(told, 2 * rows + 1, ((True,),) * rows)
        self.begins(told, 20, ((True,),) * 9, unit=1)
        self.begins(told, 22, ((True,),) * 10, unit=1)


class Against(Case):
    def test_against_the_words_of_the_document(self):
        chance = random.Random(120)
        seen = set()
        for _ in range(250):
            told = some_library(chance, gaps=0.1)
            unit = chance.randrange(len(told[1]))
            givens = some_pair(chance, told[1][unit][0][0])
            table = some_table(chance, told[0], chance.choice((0, 1, 2, 3, 12)))
            for most in (1, 2, 3, 20, 40):
                with self.subTest(told=told, unit=unit, givens=givens, table=table, most=most):
                    try:
                        *wanted, begun = slow_run(told, unit, givens, table, most)
                    except Ended as ended:
                        error = {"NoBody": NoBody, "TooLong": TooLong}[ended.args[0]]
                        for function in (run, traced):
                            self.fails(error, ended.args[1], told, unit, givens, table,
                                       function=function, most=most)
                        seen.add(error)
                        continue
                    self.assertEqual(traced(told, unit, givens, table, most=most), tuple(wanted))
                    found = run(told, unit, givens, table, most=most)
                    self.assertEqual(found, tuple(wanted[:2]))
                    seen.add(len(begun) > 2)
        self.assertEqual(seen, {NoBody, TooLong, False, True})

    def test_mapped_keys(self):
        chance = random.Random(250)
        rising = {0: 0, 1: 3, 2: 10 ** 40, 3: 10 ** 40 + 7}

        def mapped(value):
            if isinstance(value, tuple):
                return tuple(mapped(part) for part in value)
            return value if isinstance(value, bool) or value is None else rising[value]

        for _ in range(200):
            told = some_library(chance, gaps=0, only_below=True)
            unit = chance.randrange(len(told[1]))
            givens = some_pair(chance, told[1][unit][0][0])
            table = some_table(chance, told[0], 3)
            with self.subTest(told=told, unit=unit, givens=givens, table=table):
                found = traced(told, unit, givens, table)
                wanted = mapped(found)
                self.assertEqual(traced(told, unit, mapped(givens), mapped(table)), wanted)
                one = answered(told, unit, givens, table, found[2])
                other = answered(told, unit, mapped(givens), mapped(table), wanted[2])
                if one[0] == "ended":
                    one = ("ended", *mapped(one[1:]))
                self.assertEqual(other, one)


def exchanged(answers, at, other):
    return answers[:at] + (other,) + answers[at + 1:]


class Answered(Case):
    def setUp(self):
        # Unit 1 is given a key; it gives back this key, and whether it was 0.
        after = (("pairs", ()), ("names", ((("=", "x0", "y0"),),)),
                 ("each", ((("is", "m0", True),),)), ("change", ((),), 0, ((3, ((),)),)))
        is_zero = (("=", "n0", 0),)
        body = ((("call", 1, ("x0",), (), ()), TURN, ("call", 1, (0,), (), is_zero)), ("n1",), ())
        self.told = ((0, 1), ((contract((1, 0), (1, 0)), body),
                              (contract((1, 0), (1, 0), after), None)))
        self.table = ((False,), (True,))
        self.marked = ((True,), (True,))

    def asked(self, answers, key=0):
        return answered(self.told, 0, ((key,), ()), self.table, answers)

    def test_allowed_answers(self):
        good = ((0,), (), self.marked)
        self.assertEqual(self.asked((good, good)), ("ended", ((0,), ()), self.marked))
        found = self.asked((((5,), (), self.marked), None), 5)
        self.assertEqual(found, ("ended", ((0,), ()), ((False,), (False,))))

    def test_made_and_not_made(self):
        good = ((0,), (), self.marked)
        self.assertEqual(self.asked((None, good)), ("answer", 0, ("made",)))
        self.assertEqual(self.asked((good, None)), ("answer", 2, ("made",)))
        for answer in (good, ((7,), (), ())):
            found = self.asked((((5,), (), self.marked), answer), 5)
            self.assertEqual(found, ("answer", 2, ("made",)))

    def test_faults(self):
        good = ((0,), (), self.marked)
        for wrong, fault in ((((0,), (), self.marked[:1]), ("rows",)),
                             (((0,), (), self.marked + self.table), ("rows",)),
                             (((4,), (), ()), ("rows",)),
                             (((4,), (), self.marked), ("clause", 1)),
                             (((4,), (), self.table), ("clause", 1)),
                             (((0,), (), self.table), ("clause", 2))):
            self.assertEqual(self.asked((wrong, good)), ("answer", 0, fault))
            self.assertEqual(self.asked((wrong, None)), ("answer", 0, fault))
            self.assertEqual(self.asked((good, wrong)), ("answer", 2, fault))
            self.assertEqual(self.asked((None, wrong)), ("answer", 0, ("made",)))

    def test_it_is_the_table_at_the_call_that_counts(self):
        # No row may change: behind the walk, that is.
        same = ("each", ((("is", "m0", True), ("is", "u0", True)),
                         (("is", "m0", False), ("is", "u0", False))))
        told = ((0, 1), ((contract(), ((TURN, ("call", 1, (), (), ())), (), ())),
                         (contract(after=(same,)), None)))
        turned = ((True,), (False,))
        found = answered(told, 0, NOTHING, self.table, (((), (), turned),))
        self.assertEqual(found, ("ended", NOTHING, turned))
        found = answered(told, 0, NOTHING, self.table, (((), (), self.table),))
        self.assertEqual(found, ("answer", 1, ("clause", 0)))

    def test_a_body_that_is_called_is_not_looked_at(self):
        told = library(calls(1), calls(1))
        found = answered(told, 0, NOTHING, ((True,),), (((), (), ((False,),)),))
        self.assertEqual(found, ("ended", NOTHING, ((False,),)))

    def test_without_calls(self):
        told = library(((SET, TURN), (), ()))
        self.assertEqual(answered(told, 0, NOTHING, ((True,),), ()), ("ended", NOTHING, ((False,),)))

    def test_before_of_the_unit_is_not_asked(self):
        told = ((0, 1), (((0, 0), (0, 0), (("names", ()),), (("names", ()),), None),))
        told = ((0, 1), ((told[1][0], ((), (), ())),))
        self.assertEqual(answered(told, 0, NOTHING, (), ()), ("ended", NOTHING, ()))

    def test_answers_that_traced_tells(self):
        chance = random.Random(123)
        many = 0
        for _ in range(400):
            told = some_library(chance, gaps=0, only_below=True)
            unit = len(told[1]) - 1
            givens = some_pair(chance, told[1][unit][0][0])
            table = some_table(chance, told[0], chance.randrange(4))
            results, left, answers = traced(told, unit, givens, table)
            fault, steps, names, _ = slow_told(told, told[1][unit][1][0], givens, table, answers)
            with self.subTest(told=told, unit=unit, givens=givens, table=table):
                found = answered(told, unit, givens, table, answers)
                self.assertEqual(found, fault or ("ended", results, left))
                if fault is None:
                    self.assertEqual(back(names, told[1][unit][1]), results)
                    many += any(answers)
                if all(self.keeps(told, unit, i, step) for i, step in enumerate(steps)) and not fault:
                    self.assertEqual(found[0], "ended")
        self.assertGreater(many, 20)

    def keeps(self, told, unit, i, step):
        """True if the answer of item i keeps all of after of the called contract."""
        ahead, behind, call = step
        if call is None:
            return True
        one = told[1][told[1][unit][1][0][i][1]][0]
        if ends(one, *call, ahead, behind) is None:
            self.assertIsNone(answer_fault(one, call[0], ahead, (*call[1], behind)))
            return True
        return False

    def test_one_answer_exchanged(self):
        chance = random.Random(1230)
        seen = set()
        for _ in range(600):
            told = some_library(chance, gaps=0, only_below=True)
            unit = len(told[1]) - 1
            givens = some_pair(chance, told[1][unit][0][0])
            table = some_table(chance, told[0], chance.randrange(4))
            answers = traced(told, unit, givens, table)[2]
            if not answers:
                continue
            at = chance.randrange(len(answers))
            items = told[1][unit][1][0]
            called = [item[1] for item in items if item[0] == "call"][at]
            other = (*some_pair(chance, told[1][called][0][1]),
                     some_table(chance, told[0], len(table) + chance.choice((0, 0, 0, 1))))
            wrong = exchanged(answers, at, other if chance.random() < 0.8 else None)
            fault, _, names, left = slow_told(told, items, givens, table, wrong)
            with self.subTest(told=told, unit=unit, givens=givens, table=table, wrong=wrong):
                ended = fault or ("ended", back(names, told[1][unit][1]), left)
                self.assertEqual(answered(told, unit, givens, table, wrong), ended)
            seen.add(fault and fault[2][0])
        self.assertEqual(seen, {None, "made", "rows", "clause"})


if __name__ == "__main__":
    unittest.main()
