"""Playing: [142], [144], and [240] as far as told runs go."""

import random
import unittest

from anylength import playing as module
from anylength.libraries import check_library
from tests.making import some_library
from tests.slow import slow_obligations, slow_play
from tests.support import asked
from tests.told import POOL, some_alike, some_question, some_told

play = asked(module.play)

NOTHING = ((), ())
NEVER = (("<", 0, 0),)
ALWAYS = ((),)
MARKED = ((("is", "m0", True),),)
SET = ("up", (), (), (((), (("m0", True),), False),), ())
FRONT = ("up", (), (False,), (((("is", "f0", False),), (("m0", False), ("f0", True)), False),), ())
TWO = ((False,), (False,))
SAME_MARKS = ((("is", "m0", True), ("is", "u0", True)), (("is", "m0", False), ("is", "u0", False)))


def contract(takes=(0, 0), gives=(0, 0), before=(), after=(), falls=None):
    return (takes, gives, before, after, falls)


def call(unit, keys=(), bits=(), guard=()):
    return ("call", unit, keys, bits, guard)


class Case(unittest.TestCase):
    def asked(self, units, aim, table, answers=(), givens=NOTHING, value=0, shape=(0, 1)):
        told = (shape, units)
        self.assertIsNone(check_library(told))
        return play((told, 0, aim), (givens, table, answers, value))


class Answers(Case):
    """Which of the answers comes first."""

    def setUp(self):
        before = (("names", ((("is", "p0", True),),)), ("each", ((("is", "m0", False),),)))
        after = (("each", MARKED),)
        takes = ((("is", "p0", True),),)
        items = (call(1, (), ("p0",)), FRONT, call(2, guard=(("is", "g0", True),)))
        self.units = (
            (contract((0, 1), before=before, after=(("some", MARKED),)), (items, (), ())),
            (contract((0, 1), (0, 1), before=(("names", takes),), after=after), None),
            (contract(before=(("each", MARKED),), after=(("names", ()),)), None),
        )
        self.good = (((), (True,), ((True,), (True,))), ((), (), TWO))

    def play(self, aim, answers, table=TWO, bit=True):
        return self.asked(self.units, aim, table, answers, ((), (bit,)))

    def test_before_comes_first(self):
        wrong = (None, None)
        for aim in (("after", 0), ("call", 0, 0), ("call", 2, 0), ("clause", ("names", ()))):
            many = {("call", 0, 0): 0, ("call", 2, 0): 1}.get(aim, 2)
            self.assertEqual(self.play(aim, wrong[:many], TWO, False), ("before", 0))
            self.assertEqual(self.play(aim, wrong[:many], ((True,),), False), ("before", 0))
            self.assertEqual(self.play(aim, wrong[:many], ((False,), (True,))), ("before", 1))

    def test_then_the_first_wrong_answer(self):
        one, two = self.good
        fault = ("clause", 0)
        self.assertEqual(self.play(("after", 0), (None, None)), ("answer", 0, ("made",)))
        bad = ((), (False,), TWO)
        self.assertEqual(self.play(("after", 0), (bad, None)), ("answer", 0, fault))
        self.assertEqual(self.play(("after", 0), (one, None)), ("answer", 2, ("made",)))
        self.assertEqual(self.play(("after", 0), (one, two)), ("answer", 2, fault))
        self.assertEqual(self.play(("after", 0), (one, ((), (), ()))), ("answer", 2, ("rows",)))
        self.assertEqual(self.play(("call", 2, 0), (bad,)), ("answer", 0, fault))

    def test_answers_behind_the_items_of_the_question_are_not_told(self):
        one, _ = self.good
        self.assertEqual(self.play(("call", 2, 0), (one,)), ("broken", ("row", 0)))
        self.assertEqual(self.play(("call", 0, 0), ()), ("kept",))

    def test_then_the_guard(self):
        off = ((), (False,), ((True,), (True,)))
        self.assertEqual(self.play(("call", 2, 0), (off,)), ("guard", 2))
        # A guard that does not hold is no matter where the aim is not this call.
        self.assertEqual(self.play(("after", 0), (off, None)), ("kept",))
        self.assertEqual(self.play(("clause", ("some", ())), (off, None)), ("broken", ("none",)))

    def test_then_broken_or_kept(self):
        off = ((), (False,), ((True,), (True,)))
        self.assertEqual(self.play(("after", 0), (off, None)), ("kept",))
        found = self.play(("clause", ("each", MARKED)), (off, None))
        self.assertEqual(found, ("broken", ("row", 0)))


class Opening(Case):
    def test_the_greatest_key_and_the_last_one(self):
        # The two units of [3], of which the second one is broken on two rows.
        bounded = contract((0, 0), (1, 0), after=(("each", ((("<=", "k0", "y0"),),)),))
        climb = ("up", (0,), (), (((("<", "r0", "k0"),), (("r0", "k0"),), False),), ("r0",))
        take = ("up", (0,), (), (((), (("r0", "k0"),), False),), ("r0",))
        for walk, wanted in ((climb, ("kept",)), (take, ("broken", ("row", 0)))):
            units = ((bounded, ((walk,), ("n0",), ())),)
            found = self.asked(units, ("after", 0), ((4,), (1,)), shape=(1, 0))
            self.assertEqual(found, wanted)
            found = self.asked(units, ("after", 0), ((1,), (4,)), shape=(1, 0))
            self.assertEqual(found, ("kept",))


class Calls(Case):
    """The clauses of before of a called unit, and falls."""

    def units(self, clause, items=(), passed=((), ()), takes=(0, 0), guard=()):
        body = ((*items, call(1, *passed, guard)), (), ())
        return ((contract(takes), body), (contract((len(passed[0]), len(passed[1])),
                                                   before=(("names", ALWAYS), clause)), None))

    def test_every_kind(self):
        aim = ("call", 0, 1)
        for clause, table, wanted in (
            (("names", ()), (), ("names",)), (("each", MARKED), ((True,), (False,)), ("row", 1)),
            (("some", MARKED), TWO, ("none",)), (("some", MARKED), (), ("none",)),
            (("next", ((("is", "M0", True),),)), ((False,), (True,), (False,)), ("rows", 1, 2)),
        ):
            found = self.asked(self.units(clause), aim, table)
            self.assertEqual(found, ("broken", wanted))
        for clause, table in ((("names", ALWAYS), ()), (("each", MARKED), ()),
                              (("some", MARKED), ((True,),)), (("next", ()), ((False,),))):
            self.assertEqual(self.asked(self.units(clause), aim, table), ("kept",))

    def test_the_table_at_the_end_of_the_items(self):
        clause = ("each", ((("is", "m0", True),),))
        self.assertEqual(self.asked(self.units(clause, (SET,)), ("call", 1, 1), TWO), ("kept",))
        found = self.asked(self.units(clause, (SET, FRONT)), ("call", 2, 1), TWO)
        self.assertEqual(found, ("broken", ("row", 0)))

    def test_what_is_passed(self):
        clause = ("names", ((("<", "x0", "x1"), ("is", "p0", True)),))
        for passed, wanted in (((("x1", "x0"), ("p0",)), ("kept",)),
                               ((("x0", "x1"), ("p0",)), ("broken", ("names",))),
                               (((0, "x0"), (True,)), ("kept",)),
                               (((0, "x0"), (False,)), ("broken", ("names",)))):
            units = self.units(clause, (), passed, (2, 1))
            found = self.asked(units, ("call", 0, 1), (), (), ((6, 4), (True,)))
            self.assertEqual(found, wanted)

    def test_names_that_items_make(self):
        walk = ("up", ("x0",), (), (((), (("r0", "k0"),), False),), ("r0",))
        clause = ("some", ((("=", "k0", "x0"),),))
        units = self.units(clause, (walk,), (("n0",), ()), (1, 0))
        units = ((units[0][0], units[0][1]), units[1])
        for table, wanted in ((((4,), (5,)), ("kept",)), ((), ("broken", ("none",)))):
            found = self.asked(units, ("call", 1, 1), table, (), ((9,), ()), shape=(1, 0))
            self.assertEqual(found, wanted)

    def test_guards(self):
        units = self.units(("names", ()), guard=NEVER)
        self.assertEqual(self.asked(units, ("call", 0, 1), ()), ("guard", 0))
        units = ((contract(falls=(MARKED, 1)), ((SET, call(0, guard=NEVER)), (), ())),)
        self.assertEqual(self.asked(units, ("falls", 1), TWO), ("guard", 1))

    def test_falls(self):
        for by in (1, 2, 3):
            for table, found in ((((True,), (True,)), -1), (TWO, 0), ((), 0)):
                units = ((contract(falls=(MARKED, by)), ((FRONT, call(0)), (), ())),)
                wanted = ("kept",) if found == -by else ("broken", ("sum", found, -by))
                self.assertEqual(self.asked(units, ("falls", 1), table), wanted)

    def test_a_bracket_between(self):
        after = (("change", MARKED, 0, ((-1, ALWAYS),)),)
        units = ((contract(after=after, falls=(MARKED, 1)), ((call(0), call(0)), (), ())),)
        answer = ((), (), TWO)
        self.assertEqual(self.asked(units, ("falls", 1), TWO, (answer,)), ("kept",))
        self.assertEqual(self.asked(units, ("falls", 0), TWO), ("broken", ("sum", 0, -1)))
        self.assertEqual(self.asked(units, ("after", 0), TWO, (answer, answer)),
                         ("broken", ("sum", -2, -1)))


class After(Case):
    def one(self, clause, items, table, results=((), ())):
        """What is played for a clause of after, and for the same clause as an aim."""
        gives = (len(results[0]), len(results[1]))
        units = ((contract(gives=gives, after=(("names", ALWAYS), clause)), (items, *results)),)
        found = self.asked(units, ("after", 1), table)
        self.assertEqual(self.asked(units, ("clause", clause), table), found)
        return found

    def test_every_kind(self):
        up = (("is", "m0", True), ("is", "M0", False))
        for clause, table, wanted in (
            (("names", ()), (), ("names",)), (("each", MARKED), ((True,), (False,)), ("row", 1)),
            (("some", MARKED), TWO, ("none",)),
            (("next", ((("is", "M0", True),),)), ((False,), (True,), (False,)), ("rows", 1, 2)),
            (("pairs", (up,)), ((True,), (True,)), ("rows", 0, 1)),
            (("pairs", ((("is", "m0", True),), up)), ((True,), (False,), (False,)), ("rows", 1, 2)),
            (("change", MARKED, 0, ((1, ALWAYS),)), ((True,),), ("sum", 0, 1)),
        ):
            self.assertEqual(self.one(clause, (), table), ("broken", wanted))
        for clause in (("names", ALWAYS), ("each", ()), ("next", ()), ("pairs", ()),
                       ("change", MARKED, 0, ())):
            self.assertEqual(self.one(clause, (), ()), ("kept",))

    def test_found_and_now(self):
        found = self.one(("each", SAME_MARKS), (SET,), ((True,), (False,), (False,)))
        self.assertEqual(found, ("broken", ("row", 1)))
        self.assertEqual(self.one(("each", SAME_MARKS), (SET, FRONT), TWO), ("broken", ("row", 1)))
        self.assertEqual(self.one(("each", SAME_MARKS), (FRONT,), TWO), ("kept",))
        self.assertEqual(self.one(("some", SAME_MARKS), (SET,), TWO), ("broken", ("none",)))

    def test_results(self):
        walk = ("up", (), (True,), (((), (("f0", "m0"),), False),), ("f0",))
        clause = ("each", ((("is", "q0", True),), (("is", "m0", False),)))
        self.assertEqual(self.one(clause, (walk,), ((True,), (False,)), ((), ("g0",))),
                         ("broken", ("row", 0)))
        self.assertEqual(self.one(clause, (walk,), ((False,), (True,)), ((), ("g0",))), ("kept",))
        self.assertEqual(self.one(("names", ((("=", "y0", 0),),)), (), (), ((0,), ())), ("kept",))

    def test_sums(self):
        change = ("change", MARKED, 0, ((2, ((("is", "q0", True),),)),))
        for bit, wanted in ((True, ("kept",)), (False, ("broken", ("sum", 2, 0)))):
            self.assertEqual(self.one(change, (SET,), TWO, ((), (bit,))), wanted)

    def test_only_the_told_value_counts(self):
        often = ("change", ((("=", "k0", "v0"),),), 1, ())
        walk = ("up", (0,), (), (((), (("k0", "r0"),), False),), ())
        units = ((contract(after=(often,)), ((walk,), (), ())),)
        for value, wanted in ((0, ("broken", ("sum", 2, 0))), (3, ("broken", ("sum", -1, 0))),
                              (5, ("kept",)), (7, ("broken", ("sum", -1, 0)))):
            for aim in (("after", 0), ("clause", often)):
                found = self.asked(units, aim, ((3,), (7,)), value=value, shape=(1, 0))
                self.assertEqual(found, wanted)

    def test_a_bracket_may_tell_other_than_the_table_of_the_answer(self):
        change = ("change", MARKED, 0, ((-1, ALWAYS),))
        units = ((contract(after=(change,)), ((call(1),), (), ())), (contract(after=(change,)), None))
        for table in (TWO, ((True,), (True,))):
            found = self.asked(units, ("after", 0), TWO, (((), (), table),))
            self.assertEqual(found, ("kept",))


class Same(Case):
    def two(self, one, other, before=((), ()), gives=(0, 0), takes=(0, 0)):
        never = (("names", ()),)
        return ((contract(takes, gives, before[0], never), one),
                (contract(takes, gives, before[1], never, (MARKED, 1)), other))

    def test_the_same(self):
        for one, other, table in (
            (((SET,), (), ()), ((SET, SET), (), ()), TWO), (((), (), ()), ((), (), ()), TWO),
            (((SET,), (), ()), ((FRONT,), (), ()), ()),
            (((SET, FRONT), (), ()), ((FRONT,), (), ()), ((False,), (True,))),
        ):
            self.assertEqual(self.asked(self.two(one, other), ("same", 1), table), ("kept",))
            self.assertEqual(self.asked(self.two(other, one), ("same", 1), table), ("kept",))
            self.assertEqual(self.asked(self.two(one, other), ("same", 0), table), ("kept",))

    def test_other_rows(self):
        units = self.two(((SET,), (), ()), ((SET, FRONT), (), ()))
        self.assertEqual(self.asked(units, ("same", 1), TWO), ("broken", ("row", 0)))
        units = self.two(((SET,), (), ()), ((), (), ()))
        for table, row in ((((True,), (False,), (False,)), 1), (((True,), (True,), (False,)), 2)):
            self.assertEqual(self.asked(units, ("same", 1), table), ("broken", ("row", row)))

    def test_other_results(self):
        units = self.two(((), ("x0",), (True,)), ((), ("x1",), (True,)), gives=(1, 1), takes=(2, 0))
        for keys, wanted in (((4, 4), ("kept",)), ((4, 5), ("broken", ("results",)))):
            self.assertEqual(self.asked(units, ("same", 1), (), givens=(keys, ())), wanted)
        units = self.two(((SET,), (), (True,)), ((), (), (False,)), gives=(0, 1))
        for table in ((), TWO):
            self.assertEqual(self.asked(units, ("same", 1), table), ("broken", ("results",)))

    def test_names_of_the_other_one(self):
        first = ("up", (), (False,), (((("is", "f0", False),), (("f0", True),), False),), ("f0",))
        reader = ("up", (), ("g0",), (((), (("m0", "f0"),), False),), ())
        one, other = ((first, reader), (), ("g0",)), ((SET, first, reader), (), ("g0",))
        units = self.two(one, other, gives=(0, 1))
        for table in ((), TWO, ((True,),)):
            self.assertEqual(self.asked(units, ("same", 1), table), ("kept",))

    def test_before_of_both(self):
        clauses = (("names", ALWAYS), ("each", MARKED)), (("some", MARKED), ("next", ()))
        units = self.two(((), (), ()), ((SET,), (), ()), clauses)
        for table, wanted in ((((True,), (False,)), ("before", 1)), ((), ("before", 2)),
                              (((True,), (True,)), ("before", 3)), (((True,),), ("kept",)),
                              (((False,), (False,)), ("before", 1))):
            self.assertEqual(self.asked(units, ("same", 1), table), wanted)
        units = self.two(((), (), ()), ((SET,), (), ()), (clauses[1], ()))
        self.assertEqual(self.asked(units, ("same", 1), ((True,), (True,))), ("before", 1))
        self.assertEqual(self.asked(units, ("same", 0), ((True,), (True,))), ("before", 1))
        self.assertEqual(self.asked(units, ("same", 1), TWO), ("before", 0))

    def test_against_the_words_of_the_document(self):
        chance = random.Random(240)
        seen = set()
        for _ in range(400):
            library = some_alike(chance)
            unit, other = chance.choice(((0, 1), (1, 0), (1, 1)))
            question = (library, unit, ("same", other))
            told = (*some_told(chance, (library, unit, ("clause", ("names", ()))),
                               chance.randrange(4))[:2], (), 0)
            with self.subTest(question=question, told=told):
                wanted = slow_play(question, told)
                self.assertEqual(play(question, told), wanted)
                seen.add(wanted[0] if wanted[0] != "broken" else wanted[1][0])
        self.assertEqual(seen, {"before", "kept", "results", "row"})


class Against(Case):
    def test_against_the_words_of_the_document(self):
        chance = random.Random(144)
        seen = set()
        for at in range(1500):
            question = some_question(chance, POOL if at % 2 else ())
            told = some_told(chance, question, chance.choice((0, 1, 2, 3, 5)))
            with self.subTest(question=question, told=told):
                wanted = slow_play(question, told)
                self.assertEqual(play(question, told), wanted)
                seen.add((wanted[0], question[2][0]))
                if wanted[0] == "broken":
                    seen.add(wanted[1][0])
        places = {"names", "row", "rows", "none", "sum"}
        pairs = {(one, aim) for one in ("before", "answer", "broken", "kept")
                 for aim in ("call", "after", "clause", "falls")}
        guards = {("guard", "call"), ("guard", "falls")}
        # A sum of random pieces is hardly ever -by; it has tests of its own above.
        seen.add(("kept", "falls"))
        self.assertEqual(seen, places | pairs | guards)

    def test_every_obligation_of_a_library(self):
        chance = random.Random(1440)
        for _ in range(60):
            library = some_library(chance, gaps=0)
            for unit in range(len(library[1])):
                for aim in slow_obligations(library, unit):
                    told = some_told(chance, (library, unit, aim), 2, 0)
                    wanted = slow_play((library, unit, aim), told)
                    self.assertEqual(play((library, unit, aim), told), wanted)


if __name__ == "__main__":
    unittest.main()
