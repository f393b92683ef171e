"""The store: [280] to [287], [146], [147]."""

import random
import unittest
from itertools import product

from anylength.clauses import keeps
from anylength.deciding import decide
from anylength.errors import (
    AnylengthError,
    BadCall,
    BadResults,
    BadTerm,
    InUse,
    NoBody,
    NoContract,
    NoObligation,
    NothingToUndo,
    TooLong,
    TooWide,
)
from anylength.libraries import bound, callers, out_of_order, reaches
from anylength.obligations import obligations
from anylength.papers import judge, work
from anylength.questions import width
from anylength.runs import run
from anylength.stores import Store
from tests.making import some_body, some_contract
from tests.short import (
    ALWAYS, ASCENDING, BOUNDED, CLEAR, CLEAR_BODY, HASTY_BODY, LAST, MARKED, NOTHING, SET, STEP, STEP_BODY, TAKE,
    THREE, TOP, UNMARKED, UNSET, body, call, contract,
)
from tests.support import is_plain, some_table

NONE = (None,) * 4
CONTRACT = contract((0, 1))


def clearing(**more):
    """A store with STEP and CLEAR of the document, all of whose obligations are open."""
    store = Store((0, 1), **more)
    store.put_contract(0, STEP)
    store.put_contract(1, CLEAR)
    store.put_body(0, STEP_BODY)
    store.put_body(1, CLEAR_BODY)
    return store


def all_decided(store):
    """The store, with all obligations decided."""
    for unit in store:
        for number in range(len(store.status(unit))):
            store.decide(unit, number)
    return store


def told_of(store):
    """All that the store tells."""
    units = tuple(store)
    status = {unit: store.status(unit) for unit in units}
    evidence = {(unit, number): store.evidence(unit, number) for unit in units for number in range(len(status[unit]))}
    rest = [(store.lacks(unit), store.sound(unit), store.total(unit)) for unit in units]
    return repr((store.library, store.limit, store.log, len(store), units, status, evidence, rest))


class Case(unittest.TestCase):
    def unchanged(self, store, error, action, **wanted):
        """The action raises the error, with these attributes, and changes nothing."""
        before = told_of(store)
        with self.assertRaises(error) as caught:
            action()
        self.assertIs(type(caught.exception), error)
        for name, value in wanted.items():
            self.assertEqual(getattr(caught.exception, name), value)
        self.assertEqual(told_of(store), before)


class New(Case):
    def test_an_empty_store(self):
        for shape in ((0, 1), (2, 2)):
            store = Store(shape)
            self.assertEqual((store.library, store.limit, store.log), ((shape, NONE), 10000, ()))
            self.assertEqual((len(store), tuple(store), [unit in store for unit in range(4)]), (0, (), [False] * 4))
        self.assertEqual(Store((0, 1), limit=7).limit, 7)
        self.assertEqual(Store((0, 1), limit=0).limit, 0)

    def test_units_without_contracts(self):
        store = Store((0, 1))
        for unit in range(4):
            for door in (store.status, store.lacks, store.sound, store.total):
                self.unchanged(store, NoContract, lambda: door(unit), unit=unit)
            self.unchanged(store, NoContract, lambda: store.evidence(unit, 0), unit=unit)
            self.unchanged(store, NoContract, lambda: store.run(unit, NOTHING, ()), unit=unit)
            self.unchanged(store, NoContract, lambda: store.decide(unit, 0), unit=unit)
            self.unchanged(store, NoContract, lambda: store.judge(unit, 0, ()), unit=unit)
            self.unchanged(store, NoContract, lambda: store.put_body(unit, None), unit=unit)
            self.unchanged(store, NoContract, lambda: store.put_body(unit, body()), unit=unit)

    def test_the_units_with_contracts(self):
        store = Store((0, 1))
        for unit in (2, 0, 3):
            store.put_contract(unit, CONTRACT)
        self.assertEqual((len(store), tuple(store), list(store)), (3, (0, 2, 3), [0, 2, 3]))
        self.assertEqual([unit in store for unit in range(4)], [True, False, True, True])
        self.assertEqual(store.library, ((0, 1), ((CONTRACT, None), None, (CONTRACT, None), (CONTRACT, None))))
        store.undo(many=2)
        self.assertEqual((len(store), tuple(store), 0 in store, 2 in store), (1, (2,), False, True))


class PutContract(Case):
    def test_a_first_one(self):
        store = Store((0, 1))
        self.assertEqual(store.put_contract(1, CLEAR), ())
        self.assertEqual(store.library, ((0, 1), (None, (CLEAR, None), None, None)))
        self.assertEqual(store.log, (("contract", 1, CLEAR),))
        self.assertEqual((store.status(1), store.lacks(1)), ((), (("body", 1),)))

    def test_an_equal_one(self):
        store = all_decided(clearing())
        before = [store.status(unit) for unit in store]
        self.assertEqual((store.put_contract(0, STEP), store.put_contract(1, CLEAR)), ((), ()))
        self.assertEqual([store.status(unit) for unit in store], before)
        self.assertEqual(store.log[-2:], (("contract", 0, STEP), ("contract", 1, CLEAR)))

    def test_another_one(self):
        store = all_decided(clearing())
        papers = [store.evidence(0, number) for number in (0, 1)]
        self.assertEqual(store.put_contract(0, STEP[:3] + (STEP[3][::-1], None)), (0, 1))
        self.assertEqual((store.status(0), store.status(1)), (("open", "open"), ("open", "open")))
        self.assertEqual([store.evidence(unit, number) for unit in (0, 1) for number in (0, 1)], [None] * 4)
        self.assertEqual(store.decide(0, 1), ("holds", papers[0]))
        store = all_decided(clearing())
        # CLEAR calls itself, and nobody else does: STEP stays as it was.
        self.assertEqual(store.put_contract(1, CLEAR[:4] + (None,)), (1,))
        self.assertEqual((store.status(0), store.status(1)), (("holds", "holds"), ("open",)))

    def test_which_units_are_opened(self):
        store = Store((0, 1))
        for unit in range(4):
            store.put_contract(unit, contract(after=(("each", MARKED),) if unit != 1 else ()))
        store.put_body(0, body(SET))
        store.put_body(1, body(call(0)))
        store.put_body(2, body(call(1)))
        all_decided(store)
        status = [store.status(unit) for unit in store]
        self.assertEqual(status, [("holds",), (), ("broken",), ()])
        # A gap that nobody calls; a gap that is called; a unit that is only reached; one without obligations.
        self.assertEqual(store.put_contract(3, contract(after=(("some", MARKED),))), ())
        self.assertEqual(store.put_contract(2, contract(after=(("some", MARKED),))), (2,))
        self.assertEqual(store.put_contract(1, contract(after=(("each", MARKED),))), (1, 2))
        self.assertEqual([store.status(unit) for unit in store], [("holds",), ("open",), ("open",), ()])
        all_decided(store)
        # Unit 2 reaches unit 0, but it does not call it; some of no rows is not marked.
        self.assertEqual(store.put_contract(0, contract(after=(("each", MARKED), ("each", ALWAYS)))), (0, 1))
        self.assertEqual([store.status(unit) for unit in store], [("open", "open"), ("open",), ("broken",), ()])
        store.put_body(0, None)
        self.assertEqual(store.put_contract(0, contract()), (1,))
        store.put_body(1, body())
        self.assertEqual(store.put_contract(1, contract()), (1, 2))

    def test_units_without_obligations_are_told(self):
        store = Store((0, 1))
        store.put_contract(0, contract(after=(("each", MARKED),)))
        store.put_contract(1, contract())
        store.put_body(1, body(call(0)))
        self.assertEqual(store.status(1), ())
        self.assertEqual(store.put_contract(0, contract(before=(("each", MARKED),))), (1,))
        self.assertEqual(store.status(1), ("open",))
        self.assertEqual(store.put_contract(0, contract()), (1,))
        self.assertEqual(store.status(1), ())

    def test_bad_terms(self):
        store = clearing()
        self.unchanged(store, BadTerm, lambda: store.put_contract(2, contract(after=(("each", ((("=", "k0", 0),),)),))),
                       term="k0")
        # It comes ahead of InUse.
        self.unchanged(store, BadTerm, lambda: store.put_contract(0, ((0, 0), (0, 0)) + STEP[2:]), term="q0")

    def test_in_use(self):
        store = clearing()
        other = ((1, 0), (0, 1)) + STEP[2:]
        self.unchanged(store, InUse, lambda: store.put_contract(0, other), unit=0)
        self.unchanged(store, InUse, lambda: store.put_contract(0, STEP[:1] + ((1, 1),) + STEP[2:]), unit=0)
        store.put_body(0, None)
        self.unchanged(store, InUse, lambda: store.put_contract(0, other), unit=1)
        self.unchanged(store, InUse, lambda: store.put_contract(1, ((1, 0),) + CLEAR[1:]), unit=1)
        store.put_body(1, None)
        self.assertEqual(store.put_contract(0, other), ())
        self.assertEqual(store.library[1][0], (other, None))

    def test_the_first_unit_that_uses(self):
        store = Store((0, 1))
        for unit in range(4):
            store.put_contract(unit, contract())
        store.put_body(3, body(call(2)))
        other = contract((1, 0))
        self.unchanged(store, InUse, lambda: store.put_contract(2, other), unit=3)
        store.put_body(2, body())
        self.unchanged(store, InUse, lambda: store.put_contract(2, other), unit=2)
        store.put_body(1, body(call(2)))
        self.unchanged(store, InUse, lambda: store.put_contract(2, other), unit=1)
        # Unit 0 only reaches unit 2.
        store.put_body(0, body(call(1)))
        self.unchanged(store, InUse, lambda: store.put_contract(2, other), unit=1)
        self.assertEqual(store.put_contract(2, contract(after=(("each", MARKED),))), (1, 2, 3))
        self.unchanged(store, InUse, lambda: store.put_contract(0, contract(gives=(0, 1))), unit=0)


class PutBody(Case):
    def test_bodies(self):
        store = Store((0, 1))
        store.put_contract(0, STEP)
        self.assertEqual(store.put_body(0, None), ())
        self.assertEqual(store.put_body(0, STEP_BODY), (0,))
        self.assertEqual((store.status(0), store.library[1][0]), (("open", "open"), (STEP, STEP_BODY)))
        all_decided(store)
        self.assertEqual(store.put_body(0, STEP_BODY), ())
        self.assertEqual(store.status(0), ("holds", "holds"))
        self.assertEqual(store.put_body(0, HASTY_BODY), (0,))
        self.assertEqual((store.status(0), store.evidence(0, 1)), (("open", "open"), None))
        self.assertEqual(store.put_body(0, None), (0,))
        self.assertEqual((store.status(0), store.library[1][0]), ((), (STEP, None)))
        self.assertEqual(store.put_body(0, None), ())
        words = [change[2] for change in store.log if change[0] == "body"]
        self.assertEqual(words, [None, STEP_BODY, STEP_BODY, HASTY_BODY, None, None])

    def test_no_other_unit_is_opened(self):
        store = all_decided(clearing())
        self.assertEqual(store.put_body(0, HASTY_BODY), (0,))
        self.assertEqual(store.status(1), ("holds", "holds"))
        self.assertEqual(store.put_body(0, None), (0,))
        self.assertEqual(store.status(1), ("holds", "holds"))
        self.assertIsNotNone(store.evidence(1, 0))
        self.assertEqual(store.put_body(1, body(UNSET)), (1,))
        self.assertEqual(store.status(1), ("open",))

    def test_errors(self):
        store = Store((0, 1))
        store.put_contract(0, STEP)
        store.put_contract(1, CLEAR)
        for told, error, wanted in (
            (body(), BadResults, {}), (body(bits=("g0",)), BadTerm, {"term": "g0"}),
            (body(call(2), bits=(True,)), NoContract, {"unit": 2}),
            (body(call(1, (0,)), bits=(True,)), BadCall, {"item": 0}),
            (body(SET, call(1, (), (True,)), bits=(True,)), BadCall, {"item": 1}),
        ):
            self.unchanged(store, error, lambda: store.put_body(0, told), **wanted)
        self.unchanged(store, NoContract, lambda: store.put_body(3, body(call(2))), unit=3)

    def test_bodies_that_call_gaps_and_later_units(self):
        store = Store((0, 1))
        store.put_contract(0, contract())
        store.put_contract(3, contract(after=(("each", MARKED),)))
        self.assertEqual(store.put_body(0, body(call(3), call(0))), (0,))
        self.assertEqual(store.lacks(0), (("body", 3),))


class Decide(Case):
    def test_verdicts_and_evidence(self):
        store = clearing()
        for unit, number in ((1, 1), (0, 0), (1, 0), (0, 1)):
            question = (store.library, unit, obligations(store.library, unit)[number])
            self.assertEqual((store.status(unit)[number], store.evidence(unit, number)), ("open", None))
            found = store.decide(unit, number)
            self.assertEqual(found, decide(question))
            self.assertEqual((store.status(unit)[number], store.evidence(unit, number)), found)
            self.assertEqual(store.log[-1], ("decide", unit, number))
        store.put_body(0, HASTY_BODY)
        verdict, told = store.decide(0, 0)
        self.assertEqual((verdict, store.status(0), store.evidence(0, 0)), ("broken", ("broken", "open"), told))

    def test_again(self):
        store = clearing()
        first = store.decide(0, 0)
        self.assertEqual(store.decide(0, 0), first)
        self.assertEqual(len(store.log), 6)

    def test_errors_in_their_order(self):
        store = Store((0, 1), limit=7)
        self.unchanged(store, NoContract, lambda: store.decide(0, 40), unit=0)
        store.put_contract(0, STEP)
        self.unchanged(store, NoBody, lambda: store.decide(0, 40), unit=0)
        store.put_body(0, STEP_BODY)
        self.unchanged(store, NoObligation, lambda: store.decide(0, 2), number=2)
        self.unchanged(store, NoObligation, lambda: store.decide(0, 40), number=40)
        self.assertEqual(width((store.library, 0, ("after", 0))), 8)
        self.unchanged(store, TooWide, lambda: store.decide(0, 0), number=8)
        store = clearing(limit=8)
        self.assertEqual(store.decide(0, 0)[0], "holds")


class Judge(Case):
    def test_papers_that_are_taken(self):
        store = clearing()
        paper = decide((store.library, 0, ("after", 0)))[1]
        self.assertIsNone(store.judge(0, 0, paper * 2))
        self.assertEqual((store.status(0), store.evidence(0, 0)), (("holds", "open"), paper * 2))
        self.assertIsNone(store.judge(0, 0, paper[::-1]))
        self.assertEqual(store.evidence(0, 0), paper[::-1])
        self.assertEqual(store.decide(0, 0), ("holds", paper))
        self.assertEqual(store.evidence(0, 0), paper)
        self.assertEqual(store.log[-3:], (("judge", 0, 0, paper * 2), ("judge", 0, 0, paper[::-1]), ("decide", 0, 0)))

    def test_papers_that_are_not_taken(self):
        store = all_decided(clearing())
        store.put_body(0, HASTY_BODY)
        store.decide(0, 0)
        for unit, number, paper in ((0, 0, ()), (0, 1, ()), (1, 0, ()), (1, 1, (((), (True,), 1),))):
            before = told_of(store).replace(repr(store.log), "")
            question = (store.library, unit, obligations(store.library, unit)[number])
            self.assertEqual(store.judge(unit, number, paper), judge(question, paper))
            self.assertIsNotNone(judge(question, paper))
            self.assertEqual(told_of(store).replace(repr(store.log), ""), before)
            self.assertEqual(store.log[-1], ("judge", unit, number, paper))

    def test_errors_in_their_order(self):
        store = Store((0, 1), limit=4)
        self.unchanged(store, NoContract, lambda: store.judge(0, 40, ()), unit=0)
        store.put_contract(0, STEP)
        self.unchanged(store, NoBody, lambda: store.judge(0, 40, ()), unit=0)
        store.put_body(0, STEP_BODY)
        self.unchanged(store, NoObligation, lambda: store.judge(0, 2, ()), number=2)
        paper = decide((store.library, 0, ("after", 0)))[1]
        self.assertEqual(work((store.library, 0, ("after", 0)), paper[:3]), 8)
        # Twice the limit of the store is 8.
        self.assertEqual(store.judge(0, 0, paper[:3])[0], "column")
        self.unchanged(store, TooWide, lambda: store.judge(0, 0, paper), number=10)
        self.assertEqual(store.judge(0, 0, paper + (((1,), (), 0),)), ("form", 4))
        self.unchanged(store, TooWide, lambda: store.decide(0, 0), number=8)


class Evidence(Case):
    def test_errors(self):
        store = Store((0, 1))
        self.unchanged(store, NoContract, lambda: store.evidence(1, 0), unit=1)
        store.put_contract(1, CLEAR)
        self.unchanged(store, NoBody, lambda: store.evidence(1, 0), unit=1)
        store.put_contract(0, STEP)
        store.put_body(1, CLEAR_BODY)
        self.assertEqual((store.evidence(1, 0), store.evidence(1, 1)), (None, None))
        self.unchanged(store, NoObligation, lambda: store.evidence(1, 2), number=2)

    def test_what_was_returned_stays(self):
        store = all_decided(clearing())
        told = (store.library, store.log, store.status(1), store.evidence(1, 0), store.lacks(1), tuple(store))
        before = repr(told)
        units = iter(store)
        store.put_body(0, HASTY_BODY)
        store.put_contract(1, CLEAR[:4] + (None,))
        store.undo(many=10)
        store.put_contract(3, contract())
        self.assertEqual(repr(told), before)
        self.assertEqual((list(units), tuple(store)), ([0, 1], (3,)))

    def test_everything_returned_is_plain(self):
        store = all_decided(clearing())
        for told in (store.library, store.log, store.status(0), store.evidence(0, 0), store.lacks(0), store.limit,
                     store.sound(0), store.total(1), store.undo(many=2), store.apply((("decide", 0, 0),)),
                     store.run(1, NOTHING, ((True,),))):
            self.assertTrue(is_plain(told))
        self.assertIs(store.sound(0) or store.total(0), True)


class Lacks(Case):
    def chain(self):
        """Unit 2 calls 1 and 3, unit 1 calls 0; unit 3 calls nobody."""
        store = Store((0, 1))
        after = (("each", MARKED), ("some", ALWAYS))
        for unit in range(4):
            store.put_contract(unit, contract(before=(("some", ALWAYS),), after=after))
        return store

    def test_gaps_and_what_is_open(self):
        store = self.chain()
        self.assertEqual(store.lacks(2), (("body", 2),))
        store.put_body(2, body(call(1), call(3)))
        opened = tuple(("open", 2, number) for number in range(4))
        self.assertEqual(store.lacks(2), (("body", 1),) + opened + (("body", 3),))
        store.put_body(1, body(call(0)))
        self.assertEqual(store.lacks(2), (("body", 0),) + tuple(("open", 1, number) for number in range(3)) + opened
                         + (("body", 3),))
        self.assertEqual(store.lacks(1), (("body", 0),) + tuple(("open", 1, number) for number in range(3)))
        self.assertEqual((store.lacks(0), store.lacks(3)), ((("body", 0),), (("body", 3),)))

    def test_what_is_broken(self):
        store = self.chain()
        store.put_body(2, body(call(1), call(3)))
        store.put_body(1, body(call(0)))
        store.put_body(0, body(UNSET))
        store.put_body(3, body(SET))
        all_decided(store)
        self.assertEqual(store.status(0), ("broken", "holds"))
        self.assertEqual(store.lacks(2), (("broken", 0, 0),))
        self.assertEqual([store.sound(unit) for unit in store], [False, False, False, True])
        store.put_body(0, body(SET))
        self.assertEqual(store.lacks(2), (("open", 0, 0), ("open", 0, 1)))
        store.decide(0, 0)
        self.assertEqual(store.lacks(2), (("open", 0, 1),))
        store.decide(0, 1)
        self.assertEqual((store.lacks(2), store.sound(2)), ((), True))
        self.assertEqual((store.total(0), store.total(1), store.total(2), store.total(3)), (True, True, False, True))
        store.put_body(3, None)
        self.assertEqual((store.lacks(2), store.sound(1)), ((("body", 3),), True))

    def test_calls_out_of_order(self):
        store = all_decided(clearing())
        self.assertEqual([(store.sound(unit), store.total(unit)) for unit in store], [(True, True)] * 2)
        store.put_contract(1, CLEAR[:4] + (None,))
        self.assertEqual((store.sound(1), store.total(1)), (False, False))
        store.decide(1, 0)
        self.assertEqual((store.sound(1), store.total(1), store.lacks(1)), (True, False, ()))
        self.assertEqual((store.sound(0), store.total(0)), (True, True))

    def test_a_call_of_a_later_unit(self):
        store = Store((0, 1))
        store.put_contract(0, contract())
        store.put_contract(1, contract())
        store.put_body(0, body(call(1)))
        self.assertEqual((store.sound(0), store.total(0)), (False, False))
        store.put_body(1, body())
        self.assertEqual((store.sound(0), store.total(0)), (True, False))
        self.assertEqual((store.sound(1), store.total(1)), (True, True))

    def test_what_was_changed_last_counts(self):
        store = Store((0, 1))
        store.put_contract(0, contract())
        store.put_body(0, body())
        self.assertEqual((store.sound(0), store.total(0)), (True, True))
        store.put_body(0, body(call(0)))
        self.assertEqual((store.sound(0), store.total(0)), (True, False))
        store.undo()
        self.assertEqual((store.sound(0), store.total(0)), (True, True))

    def test_units_that_call_each_other(self):
        store = Store((0, 1))
        for unit in (0, 1):
            store.put_contract(unit, contract(after=(("each", MARKED),)))
        store.put_body(0, body(call(1)))
        store.put_body(1, body(call(0)))
        all_decided(store)
        # Both count on each other: every run that ends keeps the clause, but none ends.
        self.assertEqual([(store.sound(unit), store.total(unit)) for unit in store], [(True, False)] * 2)
        self.unchanged(store, TooLong, lambda: store.run(0, NOTHING, (), most=40), most=40)


class Apply(Case):
    CHANGES = (("contract", 0, STEP), ("contract", 1, CLEAR), ("body", 0, STEP_BODY), ("body", 1, CLEAR_BODY),
               ("decide", 0, 0), ("judge", 0, 1, ()), ("contract", 0, STEP))

    def test_several(self):
        store = Store((0, 1))
        found = store.apply(self.CHANGES)
        paper = decide((store.library, 0, ("after", 0)))[1]
        question = (store.library, 0, ("after", 1))
        self.assertEqual(found, ((), (), (0,), (1,), ("holds", paper), judge(question, ()), ()))
        self.assertEqual(store.log, self.CHANGES)
        self.assertEqual(store.status(0), ("holds", "open"))

    def test_none(self):
        store = clearing()
        before = told_of(store)
        self.assertEqual(store.apply(()), ())
        self.assertEqual(told_of(store), before)

    def test_one_that_raises(self):
        store = all_decided(clearing())
        for last, error in ((("decide", 1, 0), NoBody), (("contract", 0, ((0, 0), (0, 0)) + STEP[2:]), BadTerm),
                            (("contract", 0, ((1, 0),) + STEP[1:]), InUse), (("decide", 3, 0), NoContract),
                            (("judge", 0, 2, ()), NoObligation), (("body", 0, body()), BadResults)):
            changes = (("body", 1, None), ("contract", 2, contract()), ("body", 2, body(call(0))), ("decide", 0, 1),
                       ("body", 0, HASTY_BODY), ("decide", 0, 0))
            self.unchanged(store, error, lambda: store.apply(changes + (last, ("contract", 3, contract()))))
            self.unchanged(store, error, lambda: store.apply((("body", 1, None), last)))
        wrong = contract(before=(("names", ((("=", "x0", 0),),)),))
        self.unchanged(store, BadTerm, lambda: store.apply((("contract", 2, wrong),)), term="x0")
        self.assertEqual(len(store), 2)

    def test_too_wide(self):
        store = clearing(limit=8)
        self.unchanged(store, TooWide, lambda: store.apply((("decide", 0, 0), ("decide", 1, 1))), number=32)
        self.assertEqual(store.status(0), ("open", "open"))

    def test_long_logs(self):
        store = clearing()
        store.apply((("contract", 0, STEP),) * 40)
        store.apply((("contract", 1, CLEAR),) * 40)
        self.assertEqual(len(store.log), 84)
        self.assertEqual(told_of(Store.made((0, 1), store.log)), told_of(store))


class Undo(Case):
    def test_one_and_several(self):
        store = Store((0, 1))
        states = [told_of(store)]
        for change in Apply.CHANGES:
            store.apply((change,))
            states.append(told_of(store))
        for many in (1, 2, 3, 1):
            log = store.log
            undone = store.undo(many=many) if many > 1 else store.undo()
            self.assertEqual(undone, log[::-1][:many])
            self.assertEqual(store.log, log[:-many])
            self.assertEqual(told_of(store), states[len(store.log)])
        self.assertEqual(store.log, ())

    def test_more_than_there_are(self):
        store = clearing()
        self.unchanged(store, NothingToUndo, lambda: store.undo(many=5))
        self.unchanged(store, NothingToUndo, lambda: store.undo(many=40))
        self.assertEqual(len(store.undo(many=4)), 4)
        self.unchanged(store, NothingToUndo, store.undo)
        self.unchanged(Store((0, 1)), NothingToUndo, Store((0, 1)).undo)

    def test_each_kind_of_change(self):
        store = all_decided(clearing())
        paper = store.evidence(0, 0)
        before = told_of(store)
        for change in (("contract", 0, STEP[:3] + (STEP[3][:1], None)), ("contract", 1, CLEAR), ("contract", 2, CLEAR),
                       ("body", 0, HASTY_BODY), ("body", 1, None), ("body", 0, STEP_BODY), ("decide", 0, 0),
                       ("judge", 0, 0, paper * 2), ("judge", 0, 0, ())):
            store.apply((change,))
            self.assertEqual(store.log[-1], change)
            self.assertEqual(store.undo(), (change,))
            self.assertEqual(told_of(store), before)

    def test_papers_come_back(self):
        store = all_decided(clearing())
        store.put_body(0, HASTY_BODY)
        store.decide(0, 0)
        store.undo(many=2)
        self.assertEqual((store.status(0), store.sound(1)), (("holds", "holds"), True))
        self.assertIsNotNone(store.evidence(0, 0))


class Made(Case):
    def test_the_same_library_and_log(self):
        store = Store.made((0, 1), Apply.CHANGES)
        self.assertIsInstance(store, Store)
        self.assertEqual((store.log, store.limit), (Apply.CHANGES, 10000))
        self.assertEqual(Store.made((0, 1), Apply.CHANGES, limit=8).limit, 8)
        self.assertEqual(told_of(Store.made((1, 0), ())), told_of(Store((1, 0))))

    def test_errors(self):
        for shape, changes, limit, error in (
            ((0, 1), (("decide", 0, 0),), 10000, NoContract), ((1, 0), Apply.CHANGES, 10000, BadTerm),
            ((0, 1), Apply.CHANGES, 7, TooWide),
            ((0, 1), Apply.CHANGES[:1] + (("body", 0, body()),), 10000, BadResults),
        ):
            with self.assertRaises(error):
                Store.made(shape, changes, limit=limit)

    def test_stores_do_not_change_each_other(self):
        store = all_decided(clearing())
        other = Store.made((0, 1), store.log)
        self.assertEqual(told_of(other), told_of(store))
        before = told_of(store)
        other.put_body(0, HASTY_BODY)
        other.undo(many=3)
        self.assertEqual(told_of(store), before)
        after = told_of(other)
        store.put_contract(1, CLEAR[:4] + (None,))
        self.assertEqual(told_of(other), after)


class Runs(Case):
    def test_as_run(self):
        store = clearing()
        for table in product(((True,), (False,)), repeat=3):
            for unit in (0, 1):
                self.assertEqual(store.run(unit, NOTHING, table), run(store.library, unit, NOTHING, table))
        store.put_body(0, HASTY_BODY)
        self.assertEqual(store.run(0, NOTHING, ((True,),) * 2), (((), (True,)), ((False,),) * 2))

    def test_most(self):
        store = clearing()
        table = ((True,),) * 3
        self.assertEqual(store.run(1, NOTHING, table, most=8)[1], ((False,),) * 3)
        for most in (1, 5, 7):
            self.unchanged(store, TooLong, lambda: store.run(1, NOTHING, table, most=most), most=most)
        store.run(1, NOTHING, ((True,),) * 9)
        self.unchanged(store, TooLong, lambda: store.run(1, NOTHING, ((True,),) * 10), most=20)
        self.assertEqual(store.run(1, NOTHING, ((True,),) * 10, most=22)[1], ((False,),) * 10)

    def test_gaps(self):
        store = clearing()
        store.put_body(0, None)
        self.unchanged(store, NoBody, lambda: store.run(0, NOTHING, ()), unit=0)
        self.unchanged(store, NoBody, lambda: store.run(1, NOTHING, (), most=1), unit=0)

    def test_runs_are_no_changes(self):
        store = clearing()
        before = told_of(store)
        store.run(1, NOTHING, ((True,),))
        self.assertEqual(told_of(store), before)

    def test_sound_units_keep_their_after(self):
        store = all_decided(clearing())
        self.assertTrue(store.sound(1) and store.total(1))
        for rows in range(5):
            for table in product(((True,), (False,)), repeat=rows):
                for unit in (0, 1):
                    most = bound(store.library, unit, rows)
                    results, left = store.run(unit, NOTHING, table, most=most)
                    self.assertEqual(len(left), rows)
                    for clause in store.library[1][unit][0][3]:
                        self.assertTrue(keeps(clause, NOTHING, results, table, left))

    def test_keys(self):
        # The greatest key, by a unit that calls another one for it.
        store = Store((1, 0))
        store.put_contract(0, BOUNDED)
        store.put_contract(1, BOUNDED)
        store.put_body(0, TOP[1][0][1])
        store.put_body(1, body(call(0), keys=("n0",)))
        all_decided(store)
        # Of what unit 0 leaves nothing is known, but the clause speaks of it.
        self.assertEqual((store.sound(0), store.sound(1), store.total(1)), (True, True, True))
        self.assertEqual(store.run(1, NOTHING, ((5,), (9,), (3,))), (((9,), ()), ((5,), (9,), (3,))))
        store.put_body(0, LAST[1][0][1])
        self.assertEqual((store.status(1), store.lacks(1)), (("holds",), (("open", 0, 0),)))


class Model:
    """A store, slowly: everything is worked out of the log and of what is decided."""

    def __init__(self, shape, limit):
        self.shape, self.limit, self.log, self.past = shape, limit, [], []
        self.units, self.marks = list(NONE), {}

    def library(self):
        return self.shape, tuple(self.units)

    def opened(self, units):
        for unit in units:
            self.marks = {key: mark for key, mark in self.marks.items() if key[0] != unit}
            if self.units[unit][1] is not None:
                for number, _ in enumerate(obligations(self.library(), unit)):
                    self.marks[unit, number] = ("open", None)
        return tuple(units)

    def change(self, change):
        self.past.append((list(self.units), dict(self.marks)))
        self.log.append(change)
        word, unit, what = change[:3]
        if word == "contract":
            elder = self.units[unit]
            if elder and elder[0] == what:
                return ()
            calling = [other for other in callers(self.library(), unit)]
            if elder and elder[1] is not None:
                calling.append(unit)
            self.units[unit] = (what, elder[1] if elder else None)
            return self.opened(sorted(set(calling)))
        if word == "body":
            if self.units[unit][1] == what:
                return ()
            self.units[unit] = (self.units[unit][0], what)
            return self.opened([unit])
        question = (self.library(), unit, obligations(self.library(), unit)[what])
        if word == "decide":
            self.marks[unit, what] = decide(question, limit=self.limit)
            return self.marks[unit, what]
        complaint = judge(question, change[3], limit=2 * self.limit)
        if complaint is None:
            self.marks[unit, what] = ("holds", change[3])
        return complaint

    def undo(self, many):
        undone = self.log[len(self.log) - many:][::-1]
        self.units, self.marks = self.past[len(self.log) - many]
        del self.past[len(self.log) - many:]
        del self.log[len(self.log) - many:]
        return tuple(undone)

    def told(self):
        """As told_of tells it of a store."""
        units = tuple(unit for unit in range(4) if self.units[unit])
        status = {unit: tuple(mark[0] for key, mark in sorted(self.marks.items()) if key[0] == unit) for unit in units}
        evidence = {key: mark[1] for key, mark in sorted(self.marks.items())}
        rest = []
        for unit in units:
            lacks = []
            for other in reaches(self.library(), unit):
                if self.units[other][1] is None:
                    lacks.append(("body", other))
                lacks += [(mark[0], *key) for key, mark in sorted(self.marks.items())
                          if key[0] == other and mark[0] != "holds"]
            sound = not lacks
            rest.append((tuple(lacks), sound, sound and not out_of_order(self.library(), unit)))
        return repr((self.library(), self.limit, tuple(self.log), len(units), units, status, evidence, rest))


class AgainstTheModel(Case):
    def some_change(self, chance, store):
        """A change that may raise an error."""
        library, unit = store.library, chance.randrange(3)
        known = [(one[0], None) if one else None for one in library[1]]
        kind = chance.random()
        if kind < 0.25 or unit not in store:
            told = some_contract(chance, library[0], (MARKED,))
            elder = known[unit]
            if elder and chance.random() < 0.8:
                # What it takes and gives stays, so that clauses of two contracts can be mixed.
                told = elder[0][:2] + (elder[0][2][:chance.randrange(3)], elder[0][3][:chance.randrange(4)], told[4])
            return ("contract", unit, elder[0] if elder and chance.random() < 0.2 else told)
        if kind < 0.5:
            if chance.random() < 0.2:
                return ("body", unit, chance.choice((None, library[1][unit][1])))
            return ("body", unit, some_body(chance, library[0], known, unit, calls=2))
        number = chance.randrange(max(1, len(store.status(unit)) + (chance.random() < 0.1)))
        if kind < 0.85:
            return ("decide", unit, number)
        papers = [change[3] for change in store.log if change[0] == "judge"] + [()]
        if number < len(store.status(unit)) and chance.random() < 0.7:
            paper = store.evidence(unit, number) or ()
            papers = [paper if store.status(unit)[number] == "holds" else ()]
        return ("judge", unit, number, chance.choice(papers))

    def step(self, chance, store, model, errors):
        changes = tuple(self.some_change(chance, store) for _ in range(chance.choice((1, 1, 1, 2))))
        before = told_of(store)
        try:
            found = store.apply(changes)
        except AnylengthError as error:
            errors[type(error).__name__] = errors.get(type(error).__name__, 0) + 1
            self.assertEqual(told_of(store), before)
            return
        self.assertEqual(found, tuple(model.change(change) for change in changes))

    def test_against_the_model(self):
        chance = random.Random(21)
        errors, status = {}, {}
        for _ in range(40):
            shape, limit = chance.choice(((0, 1), (1, 1), (0, 2))), chance.choice((300, 1000))
            store, model = Store(shape, limit=limit), Model(shape, limit)
            for _ in range(40):
                if store.log and chance.random() < 0.1:
                    many = chance.randrange(1, min(4, len(store.log)) + 1)
                    self.assertEqual(store.undo(many=many), model.undo(many))
                else:
                    self.step(chance, store, model, errors)
            self.assertEqual(told_of(store), model.told())
            self.assertEqual(told_of(Store.made(shape, store.log, limit=limit)), told_of(store))
            self.check_statuses(store)
            for unit in store:
                for one in store.status(unit):
                    status[one] = status.get(one, 0) + 1
        self.assertGreater(min(status[one] for one in ("open", "holds", "broken")), 5)
        self.assertGreater(errors["TooWide"], 5)
        self.assertGreater(errors["InUse"], 5)
        self.assertGreater(errors["NoBody"], 5)

    def check_statuses(self, store):
        """Every status is true of the library as it is."""
        for unit in store:
            for number, one in enumerate(store.status(unit)):
                question = (store.library, unit, obligations(store.library, unit)[number])
                # A paper whose work is within twice the limit may be that of a question that is too wide.
                if one != "open" and width(question) <= 10000:
                    self.assertEqual(decide(question)[0], one)


class SoundUnits(Case):
    def test_sound_and_total_units_by_runs(self):
        chance = random.Random(22)
        tried = 0
        for items, falls in (((SET,), None), ((THREE, UNSET), None), ((TAKE[:4] + ((),),), None),
                             ((UNSET, call(0)), (MARKED, 1)), ((call(0),), None)):
            store = Store((1, 1))
            store.put_contract(0, contract(after=(("each", UNMARKED),)))
            store.put_body(0, body(UNSET))
            store.put_contract(1, contract(before=(("next", ASCENDING),), falls=falls,
                                           after=(("each", MARKED + UNMARKED), ("next", ASCENDING),
                                                  ("each", ((("=", "k0", "w0"),),)))))
            store.put_body(1, body(*items))
            all_decided(store)
            for unit in (0, 1):
                if not store.total(unit):
                    continue
                for _ in range(20):
                    table = some_table(chance, (1, 1), chance.randrange(5))
                    if any(not keeps(one, NOTHING, NOTHING, table, table) for one in store.library[1][unit][0][2]):
                        continue
                    results, left = store.run(unit, NOTHING, table, most=bound(store.library, unit, len(table)))
                    tried += 1
                    for clause in store.library[1][unit][0][3]:
                        self.assertTrue(keeps(clause, NOTHING, results, table, left))
        self.assertGreater(tried, 50)

    def test_the_example(self):
        store = all_decided(clearing())
        self.assertEqual(bound(store.library, 1, 3), 8)
        self.assertEqual(store.run(1, NOTHING, ((True,),) * 3, most=8)[1], ((False,),) * 3)


if __name__ == "__main__":
    unittest.main()
