"""Orders that share keys: [23] and [24]."""

import random
import unittest
from itertools import combinations, permutations

from anylength import amalgams as module
from tests.support import asked, slow_orders, slow_ranks

amalgams = asked(module.amalgams)
chained = asked(module.chained)

EVERY_ORDER = [slow_orders(many) for many in range(6)]


def all_shares(first, second):
    """All tuples of pairs that two tuples of so many keys can share, i ascending."""
    for many in range(min(first, second) + 1):
        for left in combinations(range(first), many):
            for right in permutations(range(second), many):
                yield tuple(zip(left, right))


def slow_amalgams(first, second, shared):
    """The amalgams by a search through all orders of so many keys."""
    place = {j: i for i, j in shared}
    for j in range(len(second)):
        if j not in place:
            place[j] = len(first) + len([other for other in place.values() if other >= len(first)])
    return tuple(
        order
        for order in EVERY_ORDER[len(first) + len(second) - len(shared)]
        if slow_ranks(order[:len(first)]) == first
        and slow_ranks([order[place[j]] for j in range(len(second))]) == second
    )


def shares_alike(first, second, shared):
    """Whether the shared keys, pair by pair, stand alike in both orders."""
    return slow_ranks([first[i] for i, _ in shared]) == slow_ranks([second[j] for _, j in shared])


class Amalgams(unittest.TestCase):
    def test_the_example_of_the_document(self):
        wanted = ((1, 2, 2), (1, 2, 3), (1, 3, 2))
        self.assertEqual(amalgams((1, 2), (1, 2), ((0, 0),)), wanted)

    def test_no_keys(self):
        self.assertEqual(amalgams((), (), ()), ((),))
        self.assertEqual(amalgams((), (1, 0), ()), ((1, 0),))
        self.assertEqual(amalgams((2, 1), (), ()), ((2, 1),))

    def test_no_shared_keys(self):
        self.assertEqual(amalgams((1,), (1,), ()), ((1, 1), (1, 2), (2, 1)))
        self.assertEqual(amalgams((0,), (1,), ()), ((0, 1),))

    def test_all_keys_shared(self):
        self.assertEqual(amalgams((1, 2, 0), (2, 0, 1), ((0, 2), (1, 0), (2, 1))), ((1, 2, 0),))
        self.assertEqual(amalgams((1, 2, 0), (2, 0, 1), ((0, 0), (1, 1), (2, 2))), ())

    def test_shared_keys_that_do_not_stand_alike(self):
        self.assertEqual(amalgams((0,), (1,), ((0, 0),)), ())
        self.assertEqual(amalgams((1, 2), (2, 1), ((0, 0), (1, 1))), ())
        self.assertEqual(amalgams((1, 1), (1, 2), ((0, 0), (1, 1))), ())

    def test_ranks_that_differ_may_be_shared(self):
        self.assertEqual(amalgams((1,), (1, 2), ((0, 1),)), ((2, 1),))
        self.assertEqual(amalgams((2, 1), (1, 2), ((0, 0),)), ((2, 1, 3),))

    def test_five_keys_together(self):
        self.assertEqual(len(amalgams((1, 2, 3), (1, 2), ())), 25)
        for second, shared in (((1, 2), ()), ((0, 1), ()), ((0, 2, 1), ((2, 0),))):
            with self.subTest(second=second, shared=shared):
                found = amalgams((1, 2, 0), second, shared)
                self.assertEqual(found, slow_amalgams((1, 2, 0), second, shared))
                self.assertEqual({len(order) for order in found}, {5})

    def test_pairs_in_any_order(self):
        shared = ((0, 1), (1, 2), (2, 0))
        found = {amalgams((1, 3, 2), (2, 1, 3), pairs) for pairs in permutations(shared)}
        self.assertEqual(found, {((1, 3, 2),)})
        some = {amalgams((1, 3, 2), (1, 1, 2), pairs) for pairs in permutations(((0, 1), (1, 2)))}
        self.assertEqual(some, {((1, 3, 2, 1),)})

    def test_every_amalgam_of_few_keys(self):
        few = [order for many in range(3) for order in EVERY_ORDER[many]]
        for first in few:
            for second in few:
                for shared in all_shares(len(first), len(second)):
                    with self.subTest(first=first, second=second, shared=shared):
                        self.check(first, second, shared)

    def test_every_amalgam_of_some_more_keys(self):
        chance = random.Random(23)
        for _ in range(400):
            first = chance.choice(EVERY_ORDER[chance.choice((2, 3))])
            second = chance.choice(EVERY_ORDER[3])
            every = all_shares(len(first), len(second))
            shared = list(chance.choice([one for one in every if len(first) - len(one) < 3]))
            chance.shuffle(shared)
            with self.subTest(first=first, second=second, shared=shared):
                self.check(first, second, tuple(shared))

    def check(self, first, second, shared):
        found = amalgams(first, second, shared)
        self.assertEqual(found, slow_amalgams(first, second, shared))
        self.assertEqual(found != (), shares_alike(first, second, shared))
        self.assertTrue(all(a < b for a, b in zip(found, found[1:])))


class Chained(unittest.TestCase):
    def check_laid(self, chain, shared):
        laid = chained(chain, shared)
        self.assertIsNotNone(laid)
        self.assertEqual(tuple(slow_ranks(keys) for keys in laid), chain)
        for at, pairs in enumerate(shared):
            for i, j in pairs:
                self.assertEqual(laid[at][i], laid[at + 1][j])

    def test_one_order(self):
        for order in ((), (0,), (1, 0, 2), (4, 3, 2, 1)):
            self.check_laid((order,), ())

    def test_orders_without_keys(self):
        self.check_laid(((), (), ()), ((), ()))
        self.check_laid(((), (1, 2), ()), ((), ()))

    def test_links_without_pairs(self):
        self.check_laid(((0,), (1, 2, 3, 4), (1, 0)), ((), ()))

    def test_the_example_of_the_document(self):
        self.check_laid(((1, 2), (1, 2), (2, 1)), (((1, 0),), ((1, 0),)))

    def test_a_chain_that_cannot_be_laid(self):
        self.assertIsNone(chained(((1, 2), (0, 1)), (((1, 0),),)))
        self.assertIsNone(chained(((0,), (1,)), (((0, 0),),)))
        self.assertIsNone(chained(((1, 2), (2, 1)), (((0, 0), (1, 1)),)))
        self.assertIsNone(chained(((1,), (1, 2), (1, 1)), (((0, 0),), ((0, 0), (1, 1)))))

    def test_room_between_neighbouring_keys(self):
        # Two further keys must find room between 0 and the shared key, and between the two.
        self.check_laid(((1, 2), (3, 1, 2, 4)), (((0, 0), (1, 3)),))
        self.check_laid(((1, 2), (1, 2, 3, 4)), (((0, 0), (1, 3)),))
        self.check_laid(((1, 2), (0, 1, 2, 2)), (((1, 1),),))
        self.check_laid(((1,), (4, 3, 2, 1)), (((0, 0),),))

    def test_eight_orders_that_close_in(self):
        # Between the two shared keys there are two further ones, and these are shared next.
        chain = ((1, 2),) + ((1, 2, 3, 4),) * 7
        first = ((0, 0), (1, 3))
        self.check_laid(chain, (first,) + (((1, 0), (2, 3)),) * 6)
        self.check_laid(chain, (first,) + (((0, 0), (1, 3)),) * 6)
        self.check_laid(chain, (first,) + (((3, 0),),) * 6)

    def test_only_the_last_link_does_not_fit(self):
        chain = ((1, 2),) * 7 + ((0, 1),)
        good = (((1, 0),),) * 6
        self.assertIsNone(chained(chain, good + (((0, 0),),)))
        self.check_laid(chain, good + (((0, 1),),))

    def test_none_exactly_if_two_neighbours_do_not_share_alike(self):
        chance = random.Random(24)
        told = {True: 0, False: 0}
        for _ in range(600):
            many = chance.randrange(1, 9)
            chain = tuple(slow_ranks(self.keys(chance)) for _ in range(many))
            shared = tuple(self.pairs(chance, *link) for link in zip(chain, chain[1:]))
            links = zip(chain, chain[1:], shared)
            fits = all(shares_alike(*link) for link in links)
            told[fits] += 1
            with self.subTest(chain=chain, shared=shared):
                if fits:
                    self.check_laid(chain, shared)
                else:
                    self.assertIsNone(chained(chain, shared))
        self.assertTrue(min(told.values()) > 100, told)

    def keys(self, chance):
        return tuple(chance.randrange(5) for _ in range(chance.randrange(5)))

    def pairs(self, chance, first, second):
        """Pairs of two orders, mostly such that they share alike."""
        pairs = []
        for i, j in zip(chance.sample(range(len(first)), len(first)), range(len(second))):
            if shares_alike(first, second, pairs + [(i, j)]) or chance.random() < 0.15:
                pairs.append((i, j))
        return tuple(chance.sample(pairs, len(pairs)))


if __name__ == "__main__":
    unittest.main()
