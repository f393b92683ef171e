"""Keys and orders: [20], [21], [22] and [25], as far as it speaks of keys alone."""

import random
import unittest
from itertools import product

from anylength import orders as module
from tests.support import asked, slow_alike, slow_orders, slow_ranks

ranks = asked(module.ranks)
alike = asked(module.alike)
count_orders = asked(module.count_orders)
orders = asked(module.orders)
count_extensions = asked(module.count_extensions)
extensions = asked(module.extensions)

SMALL = [keys for many in range(4) for keys in product(range(4), repeat=many)]


class Ranks(unittest.TestCase):
    def test_the_example_of_the_document(self):
        self.assertEqual(ranks((7, 0, 3, 7)), (2, 0, 1, 2))

    def test_no_key(self):
        self.assertEqual(ranks(()), ())

    def test_zero_is_always_asked(self):
        self.assertEqual(ranks((0,)), (0,))
        self.assertEqual(ranks((1,)), (1,))
        self.assertEqual(ranks((9,)), (1,))
        self.assertEqual(ranks((0, 9)), (0, 1))
        self.assertEqual(ranks((9, 9)), (1, 1))

    def test_neighbouring_and_equal_keys(self):
        self.assertEqual(ranks((5, 4, 6, 5)), (2, 1, 3, 2))
        self.assertEqual(ranks((0, 0, 0)), (0, 0, 0))
        self.assertEqual(ranks((1, 0, 1)), (1, 0, 1))

    def test_keys_of_many_digits(self):
        great = 10 ** 30 - 1
        self.assertEqual(ranks((great, great - 1, 0, great)), (2, 1, 0, 2))
        self.assertEqual(ranks((10 ** 40, 3)), (2, 1))

    def test_many_keys(self):
        self.assertEqual(ranks(tuple(range(12))), tuple(range(12)))
        self.assertEqual(ranks(tuple(range(12, 0, -1))), tuple(range(12, 0, -1)))
        self.assertEqual(ranks(tuple(range(3, 60, 5))), tuple(range(1, 13)))

    def test_against_the_words_of_the_document(self):
        chance = random.Random(20)
        for _ in range(500):
            top = chance.choice((2, 5, 14, 10 ** 30))
            keys = tuple(chance.randrange(top) for _ in range(chance.randrange(13)))
            with self.subTest(keys=keys):
                self.assertEqual(ranks(keys), slow_ranks(keys))

    def test_ranks_are_their_own_ranks(self):
        for keys in SMALL:
            self.assertEqual(ranks(ranks(keys)), ranks(keys))


class Alike(unittest.TestCase):
    def test_exactly_if_the_ranks_are_equal_and_as_the_places_tell(self):
        for first in SMALL:
            for second in SMALL:
                with self.subTest(first=first, second=second):
                    self.assertIs(alike(first, second), slow_alike(first, second))
                    self.assertIs(alike(first, second), ranks(first) == ranks(second))

    def test_single_pairs(self):
        self.assertIs(alike((), ()), True)
        self.assertIs(alike((0,), (1,)), False)
        self.assertIs(alike((4,), (10 ** 30 - 1,)), True)
        self.assertIs(alike((3, 4), (3, 9)), True)
        self.assertIs(alike((3, 4), (4, 4)), False)
        self.assertIs(alike((3, 4), (4, 3)), False)

    def test_unlike_lengths(self):
        self.assertIs(alike((), (0,)), False)
        self.assertIs(alike((1, 2), (1, 2, 2)), False)
        self.assertIs(alike((1, 2, 3), (1, 2)), False)

    def test_many_keys(self):
        keys = tuple(range(12))
        self.assertIs(alike(keys, tuple(key * 7 for key in keys)), True)
        self.assertIs(alike(keys, tuple(key + 1 for key in keys)), False)

    def test_a_rising_map_keeps_how_keys_stand(self):
        for keys in SMALL:
            with self.subTest(keys=keys):
                self.assertIs(alike(keys, tuple(key * key + key for key in keys)), True)


class Orders(unittest.TestCase):
    def test_the_numbers_of_the_document(self):
        self.assertEqual([count_orders(many) for many in range(6)], [1, 2, 6, 26, 150, 1082])

    def test_few_orders(self):
        self.assertEqual(orders(0), ((),))
        self.assertEqual(orders(1), ((0,), (1,)))
        self.assertEqual(orders(2), ((0, 0), (0, 1), (1, 0), (1, 1), (1, 2), (2, 1)))

    def test_every_order_ascending_and_once(self):
        for many in range(5):
            with self.subTest(many=many):
                found = orders(many)
                self.assertEqual(found, slow_orders(many))
                self.assertEqual(len(found), count_orders(many))
                self.assertTrue(all(a < b for a, b in zip(found, found[1:])))

    def test_the_numbers_of_many_keys(self):
        # Each order of some keys above 0 is one with 0 below, or one whose least class is 0:
        # so the numbers are twice those of the weak orders, but for no key.
        weak = [1]
        choose = [1]
        for many in range(1, 61):
            choose = [1] + [a + b for a, b in zip(choose, choose[1:])] + [1]
            weak.append(sum(choose[least] * weak[many - least] for least in range(1, many + 1)))
        self.assertEqual([count_orders(many) for many in range(1, 61)], [2 * w for w in weak[1:]])


class Extensions(unittest.TestCase):
    def test_the_example_of_the_document(self):
        self.assertEqual(extensions((1,), 1), ((1, 0), (1, 1), (1, 2), (2, 1)))

    def test_no_further_key(self):
        for order in ((), (0,), (1, 2), tuple(range(12))):
            self.assertEqual(extensions(order, 0), (order,))
            self.assertEqual(count_extensions(order, 0), 1)

    def test_the_empty_order(self):
        for many in range(4):
            self.assertEqual(extensions((), many), orders(many))
            self.assertEqual(count_extensions((), many), count_orders(many))
        self.assertEqual(count_extensions((), 20), count_orders(20))

    def test_against_a_search(self):
        for first in range(6):
            for order in slow_orders(first) if first < 4 else orders(first)[::7]:
                for many in range(min(3, 5 - first) + 1):
                    with self.subTest(order=order, many=many):
                        self.check(order, many)

    def check(self, order, many):
        longer = EVERY_ORDER[len(order) + many]
        wanted = tuple(keys for keys in longer if slow_ranks(keys[:len(order)]) == order)
        self.assertEqual(extensions(order, many), wanted)
        self.assertEqual(count_extensions(order, many), len(wanted))

    def test_ways_by_one_key(self):
        for order in slow_orders(4):
            different = len(set(order) - {0})
            with self.subTest(order=order):
                found = extensions(order, 1)
                self.assertEqual(len(found), 2 * different + 2)
                same = [keys for keys in found if len(set(keys) - {0}) == different]
                self.assertEqual(len(same), different + 1)

    def test_numbers_beside_one_another(self):
        self.assertEqual(count_extensions((1, 2), 1), 6)
        self.assertEqual(count_extensions((1,), 2), 20)
        self.assertEqual(count_extensions((1, 0, 1), 2), 20)
        self.assertEqual(count_extensions((0, 0, 0), 2), 6)

    def test_many_further_keys(self):
        order = tuple(range(1, 13))
        self.assertEqual(count_extensions(order, 1), 26)
        self.assertEqual(count_extensions(order, 2), 13 * 26 + 13 * 28)
        for many in range(1, 20):
            low, high = count_extensions(order, many), count_extensions(order, many + 1)
            self.assertTrue(26 * low < high <= 2 * (13 + many) * low)
        # All orders of 32 keys are the extensions of those of 12 keys, which are told apart
        # only by how many different keys they have above 0.
        wanted = sum(
            ways * count_extensions(tuple(range(1, high + 1)), 20)
            for high, ways in different_keys(12).items()
        )
        self.assertEqual(count_orders(32), wanted)


def different_keys(many):
    """How many orders of so many keys have so many different keys above 0."""
    ways = {0: 1}
    for _ in range(many):
        ways = {
            high: (high + 1) * ways.get(high, 0) + high * ways.get(high - 1, 0)
            for high in range(len(ways) + 1)
        }
    return ways


EVERY_ORDER = [slow_orders(many) for many in range(6)]


if __name__ == "__main__":
    unittest.main()
