"""What was returned may be passed on, also beyond the bounds of what is passed: [6]."""

import unittest

from anylength.amalgams import amalgams, chained
from anylength.clauses import failure, keeps
from anylength.formulas import holds, needs, terms_of
from anylength.logic import against, negated, possible
from anylength.orders import alike, extensions, orders, ranks
from anylength.watches import watch_layout, watched
from tests.support import slow_ranks

NOTHING = ((), ())
# Its negation has nine cases.
WIDE = (
    (("<", "k0", "K0"), ("is", "m0", True), ("=", "x0", "k0")),
    (("<", "K0", "k0"), ("is", "M0", True), ("<", "x0", "K0")),
)


class PassedOn(unittest.TestCase):
    def test_many_and_great_keys(self):
        keys = tuple(10 ** 50 + (at * 7) // 5 for at in range(40, 0, -1))
        self.assertEqual(ranks(keys), slow_ranks(keys))
        self.assertTrue(alike(keys, ranks(keys)))
        great = 10 ** 60
        self.assertEqual(ranks((great, great + 1, 0)), (1, 2, 0))

    def test_laid_keys(self):
        chain = ((1, 2, 3, 4),) * 8
        laid = chained(chain, (((1, 0), (2, 3)),) * 7)
        every = tuple(key for keys in laid for key in keys)
        self.assertEqual(ranks(every), slow_ranks(every))
        table = tuple((key,) for key in laid[0])
        clause = ("next", ((("<", "k0", "K0"),),))
        self.assertIsNone(failure(clause, NOTHING, NOTHING, table, table))

    def test_orders_and_amalgams(self):
        for order in extensions((1, 2, 3), 2)[::20] + orders(5)[::100]:
            self.assertEqual(ranks(order), order)
            self.assertEqual(amalgams(order, order, tuple(zip(range(5), range(5)))), (order,))

    def test_formulas_with_many_cases(self):
        found = negated(WIDE)
        self.assertGreater(len(found), 3)
        self.assertEqual(terms_of(found), terms_of(WIDE))
        self.assertEqual(needs(found), (("k0",), ("m0",)))
        self.assertIsNone(possible(tuple(a + b for a in WIDE for b in found)))
        self.assertIsNone(against(((),), WIDE + found))
        view = against(found, ())
        self.assertEqual((holds(found, view), holds(WIDE, view)), (True, False))

    def test_clauses_of_such_formulas(self):
        givens = ((3,), ())
        for table in (((3, True), (5, False)), ((5, True), (4, True)), ((1, False), (1, True))):
            kept = keeps(("next", WIDE), givens, NOTHING, table, table)
            self.assertIs(keeps(("next", negated(WIDE)), givens, NOTHING, table, table), not kept)
            states = watched(("next", negated(WIDE)), True, givens, NOTHING, table, table)
            self.assertIs(states[-1][1][0], kept)
        wanted = (("k0",), ("hit", "begun", "m0"))
        self.assertEqual(watch_layout(("next", negated(WIDE)), True), wanted)

    def test_long_views_and_tables(self):
        view = tuple((f"{letter}{digit}", digit) for letter in "xykwKW" for digit in range(3))
        self.assertTrue(holds(((("<", "x0", "W2"), ("=", "y1", "k1")),), view))
        table = tuple((at,) for at in range(40))
        self.assertTrue(keeps(("pairs", ((("<", "k0", "K0"),),)), NOTHING, NOTHING, table, table))
        often = ("change", ((("=", "k0", "v0"),),), 1, ())
        self.assertTrue(keeps(often, NOTHING, NOTHING, table, table[::-1]))


if __name__ == "__main__":
    unittest.main()
