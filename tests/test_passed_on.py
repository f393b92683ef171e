"""What was returned may be passed on, also beyond the bounds of what is passed: [6]."""

import unittest

from anylength.amalgams import amalgams, chained
from anylength.bodies import check_body, names_made
from anylength.clauses import failure, keeps
from anylength.columns import columns, complete
from anylength.contracts import answer_fault, bracket, check_contract, ends
from anylength.deciding import decide, reach, stages
from anylength.formulas import holds, needs, terms_of
from anylength.libraries import bound, check_library, with_after
from anylength.logic import against, negated, possible
from anylength.obligations import obligations, pieces
from anylength.orders import alike, count_orders, extensions, orders, ranks
from anylength.papers import judge, judge_stages, work
from anylength.playing import play
from anylength.questions import guessed, layout, width
from anylength.runs import answered, run, traced
from anylength.stores import Store
from anylength.strongest import promise
from anylength.tracks import follow, path, told_run
from anylength.walks import go, goes, states_between, visits
from anylength.watches import watch_layout, watched
from tests.support import slow_ranks

NOTHING = ((), ())
# Its negation has nine cases.
WIDE = (
    (("<", "k0", "K0"), ("is", "m0", True), ("=", "x0", "k0")),
    (("<", "K0", "k0"), ("is", "M0", True), ("<", "x0", "K0")),
)


class PassedOn(unittest.TestCase):
    def test_many_and_great_keys(self):
        keys = tuple(10 ** 50 + (at * 7) // 5 for at in range(40, 0, -1))
        self.assertEqual(ranks(keys), slow_ranks(keys))
        self.assertTrue(alike(keys, ranks(keys)))
        great = 10 ** 60
        self.assertEqual(ranks((great, great + 1, 0)), (1, 2, 0))

    def test_laid_keys(self):
        chain = ((1, 2, 3, 4),) * 8
        laid = chained(chain, (((1, 0), (2, 3)),) * 7)
        every = tuple(key for keys in laid for key in keys)
        self.assertEqual(ranks(every), slow_ranks(every))
        table = tuple((key,) for key in laid[0])
        clause = ("next", ((("<", "k0", "K0"),),))
        self.assertIsNone(failure(clause, NOTHING, NOTHING, table, table))

    def test_orders_and_amalgams(self):
        for order in extensions((1, 2, 3), 2)[::20] + orders(5)[::100]:
            self.assertEqual(ranks(order), order)
            self.assertEqual(amalgams(order, order, tuple(zip(range(5), range(5)))), (order,))

    def test_formulas_with_many_cases(self):
        found = negated(WIDE)
        self.assertGreater(len(found), 3)
        self.assertEqual(terms_of(found), terms_of(WIDE))
        self.assertEqual(needs(found), (("k0",), ("m0",)))
        self.assertIsNone(possible(tuple(a + b for a in WIDE for b in found)))
        self.assertIsNone(against(((),), WIDE + found))
        view = against(found, ())
        self.assertEqual((holds(found, view), holds(WIDE, view)), (True, False))

    def test_clauses_of_such_formulas(self):
        givens = ((3,), ())
        for table in (((3, True), (5, False)), ((5, True), (4, True)), ((1, False), (1, True))):
            kept = keeps(("next", WIDE), givens, NOTHING, table, table)
            self.assertIs(keeps(("next", negated(WIDE)), givens, NOTHING, table, table), not kept)
            states = watched(("next", negated(WIDE)), True, givens, NOTHING, table, table)
            self.assertIs(states[-1][1][0], kept)
        wanted = (("k0",), ("hit", "begun", "m0"))
        self.assertEqual(watch_layout(("next", negated(WIDE)), True), wanted)

    def test_long_views_and_tables(self):
        view = tuple((f"{letter}{digit}", digit) for letter in "xykwKW" for digit in range(3))
        self.assertTrue(holds(((("<", "x0", "W2"), ("=", "y1", "k1")),), view))
        table = tuple((at,) for at in range(40))
        self.assertTrue(keeps(("pairs", ((("<", "k0", "K0"),),)), NOTHING, NOTHING, table, table))
        often = ("change", ((("=", "k0", "v0"),),), 1, ())
        self.assertTrue(keeps(often, NOTHING, NOTHING, table, table[::-1]))

    def test_long_tables_and_great_keys_of_walks(self):
        walk = ("down", (0,), (), (((("<", "r0", "k0"),), (("r0", "k0"),), False),), ("r0",))
        table = tuple((10 ** 50 + at,) for at in range(300))
        names = ((), (), (), ())
        self.assertEqual(go(walk, names, table), ((10 ** 50 + 299,), (), table))
        states = states_between(walk, names, table)
        self.assertTrue(goes(walk, names, table, states, table))
        self.assertEqual(len(tuple(visits(walk, names, table))), 300)

    def test_contracts_and_libraries_with_many_clauses(self):
        bare = ((1, 0), (0, 0), (), (), None)
        walk = ("up", ("x0",), (), (), ())
        told = ((1, 1), ((bare, ((walk,), (), ())), (bare, ((("call", 0, ("x0",), (), ()),), (), ()))))
        clauses = (("next", WIDE), ("next", negated(WIDE)), ("names", ((),)))
        for _ in range(3):
            told = with_after(told, 0, clauses)
        often = ("change", negated(((("is", "m0", True), ("<", "k0", 0)),)), 0, ())
        told = with_after(told, 0, (often,))
        contract = told[1][0][0]
        self.assertIsNone(check_contract(told[0], contract))
        self.assertIsNone(check_library(told))
        self.assertIsNone(check_body(told, 1, told[1][1][1]))
        self.assertEqual(names_made(told, told[1][1][1]), (((), ()),))
        self.assertEqual(len(obligations(told, 0)), 10)
        self.assertEqual(bracket(contract, often[1], 0), 9)
        # A table that is long, and one pair of neighbours that only one of the clauses forbids.
        table = tuple((at, True) for at in range(30))
        self.assertEqual(ends(contract, ((3,), ()), NOTHING, table, table), 0)
        self.assertEqual(answer_fault(contract, ((3,), ()), table, ((), (), table)), ("clause", 0))
        self.assertEqual(run(told, 1, ((3,), ()), table), (NOTHING, table))
        answers = traced(told, 1, ((3,), ()), table)[2]
        self.assertEqual(answered(told, 1, ((3,), ()), table, answers), ("answer", 0, ("clause", 0)))
        question, one = (told, 1, ("clause", often)), ((3,), ())
        self.assertEqual(play(question, (one, table, answers, 0)), ("answer", 0, ("clause", 0)))
        self.assertEqual(play((told, 0, ("after", 9)), (one, table, (), 0)), ("kept",))
        self.assertEqual(pieces((told, 0, ("after", 9)), (one, table, (), 0)), ((0,), 0))
        self.assertEqual(bound(told, 1, 12), 2)
        keys, bits = layout(question)
        more_keys, more_bits = guessed(question)[1]
        # Of each of the six watched clauses there is a kept key, begun, and a kept bit.
        self.assertEqual((len(keys), len(bits)), (1 + 6, 12))
        wanted = count_orders(len(keys + more_keys)) * 2 ** len(bits + more_bits)
        self.assertEqual(width(question), wanted)

    def test_tracks_and_told_runs_of_many_rows(self):
        walk = ("up", (), (False, False), (
            ((("is", "f0", False),), (("f0", True),), False),
            ((("is", "f1", False),), (("f0", False), ("f1", True)), False),
            ((), (("f0", False), ("f1", False), ("m0", True)), False),
        ), ())
        then = (*walk[:3], (((("is", "m0", False),), (), False),) + tuple(
            (guard, assignments + ((("m0", False),) if len(assignments) < 3 else ()), False)
            for guard, assignments, _ in walk[3]), ())
        unmarked = (("is", "m0", False),)
        bare = ((0, 0), (0, 0), (("each", (unmarked,)),), (("each", (unmarked,)),), None)
        told = ((1, 1), ((bare, ((walk, then, then), (), ())),))
        question = (told, 0, ("after", 0))
        verdict, run_told = decide(question)
        self.assertEqual((verdict, len(run_told[1])), ("broken", 64))
        track = path(question, run_told)
        self.assertEqual(told_run(question, track), run_told)
        found = follow(question, track)
        self.assertEqual((len(found), complete(question, found[-1][:2])), (65, True))
        self.assertEqual(play(question, run_told)[0], "broken")
        self.assertIsNone(judge_stages(question, stages(question, 12)))

    def test_papers_borders_and_stages_that_were_returned(self):
        swap = ("up", ("x0", 0), (), (((), (("r0", "k0"), ("k0", "r0"), ("r1", "r0")), False),), ("r0",))
        shares = ((1, ((("=", "x0", "v0"),),)), (-1, ((("=", "y0", "v0"),),)))
        own = ((1, 0), (1, 0), (), (("change", ((("=", "k0", "v0"),),), 1, shares),), None)
        question = (((1, 0), ((own, ((swap,), ("n0",), ())),)), 0, ("after", 0))
        verdict, paper = decide(question)
        self.assertEqual(verdict, "holds")
        self.assertGreater(len(paper), 900)
        self.assertIsNone(judge(question, paper))
        self.assertGreater(work(question, paper), 9000)
        for keys, bits, _ in paper[::300]:
            found = columns(question, (keys, bits))
            self.assertEqual(ranks(found[-1][0]), found[-1][0])
            self.assertIn(complete(question, (keys, bits)), (True, False))
            track = reach(question, (keys, bits))
            self.assertEqual(ranks(follow(question, track)[-1][0]), keys)

    def test_promises_and_logs_that_were_returned(self):
        bare = ((2, 0), (0, 0), (), (), None)
        told = ((1, 0), ((bare, ((), (), ())),))
        strong = promise(told, 0, ("x0", "x1", "k0"), ())
        self.assertGreater(len(strong[1]), 3)
        wider = with_after(told, 0, (strong,))
        self.assertIsNone(check_library(wider))
        self.assertEqual(decide((wider, 0, ("after", 0)))[0], "holds")
        store = Store((1, 0))
        store.put_contract(0, wider[1][0][0])
        store.put_body(0, ((), (), ()))
        for _ in range(50):
            store.decide(0, 0)
        self.assertIsNone(store.judge(0, 0, store.evidence(0, 0) * 3))
        other = Store.made((1, 0), store.log)
        self.assertEqual((len(other.log), other.log, other.status(0)), (53, store.log, ("holds",)))


if __name__ == "__main__":
    unittest.main()
