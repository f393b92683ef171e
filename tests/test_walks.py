"""Walks: [80] to [86], and [25] where it speaks of walks."""

import random
import unittest
from itertools import product

from anylength import walks as module
from tests.making import some_row, some_walk
from tests.slow import slow_begin, slow_go, slow_visit
from tests.support import asked, is_plain, some_table

begin = asked(module.begin)
visit = asked(module.visit)
fired = asked(module.fired)
states_between = asked(module.states_between)
go = asked(module.go)
goes = asked(module.goes)
visits = asked(lambda *args: tuple(module.visits(*args)))

NONE = ((), (), (), ())
# Every kind of name: x1 is 9, n2 is 6.
NAMES = ((8, 9), (True,), (4, 5, 6), (False, True, False))
CARRY = ("up", ("x0",), (), (((("<", "r0", "k0"),), (("r0", "k0"), ("k0", "r0")), False),), ("r0",))


def ruled(*rules, registers=(), flags=(), results=(), direction="up"):
    return (direction, registers, flags, rules, results)


def turned(walk):
    return ("down" if walk[0] == "up" else "up", *walk[1:])


class Begin(unittest.TestCase):
    def test_no_registers_and_no_flags(self):
        self.assertEqual(begin(ruled(), NONE), ((), ()))
        self.assertEqual(begin(ruled(), NAMES), ((), ()))

    def test_sources_that_stand_for_themselves(self):
        walk = ruled(registers=(0, 0), flags=(True, False))
        self.assertEqual(begin(walk, NONE), ((0, 0), (True, False)))

    def test_names(self):
        for registers, keys in ((("x0", "x1"), (8, 9)), (("n2", "n0"), (6, 4)), (("n1", 0), (5, 0))):
            self.assertEqual(begin(ruled(registers=registers), NAMES), (keys, ()))
        for flags, bits in ((("p0", "g0"), (True, False)), (("g1", "g2"), (True, False))):
            self.assertEqual(begin(ruled(flags=flags), NAMES), ((), bits))
        self.assertEqual(begin(ruled(registers=("x1",), flags=("g1",)), NAMES), ((9,), (True,)))


class Visit(unittest.TestCase):
    def check(self, walk, state, row, wanted, rules, names=NAMES):
        """The state and the row that a visit leaves, and the rules carried out."""
        self.assertEqual(visit(walk, names, state, row), wanted)
        self.assertEqual(fired(walk, names, state, row), rules)

    def test_no_rules(self):
        self.check(ruled(), ((), ()), (3, True), (((), ()), (3, True)), (), NONE)
        walk = ruled(registers=(0,), flags=(True,))
        self.check(walk, ((7,), (False,)), (3,), (((7,), (False,)), (3,)), ())

    def test_no_registers_and_no_flags(self):
        walk = ruled(((), (("m0", True), ("k0", "k1")), False))
        self.check(walk, ((), ()), (3, 4, False), (((), ()), (4, 4, True)), (0,), NONE)

    def test_a_rule_whose_guard_does_not_hold_is_passed_over(self):
        no = (("<", "k0", 0),)
        walk = ruled((no, (("k0", 0),), False), ((), (("k0", "x0"),), False))
        self.check(walk, ((), ()), (3,), (((), ()), (8,)), (1,))
        walk = ruled((no, (("k0", 0),), True), (no, (("k0", "x0"),), False))
        self.check(walk, ((), ()), (3,), (((), ()), (3,)), ())

    def test_all_literals_of_a_guard(self):
        guard = (("<", 0, "k0"), ("is", "m0", True), ("!=", "k0", "k1"))
        walk = ruled((guard, (("m1", True),), False))
        for row, rules in (((3, 4, True, False), (0,)), ((0, 4, True, False), ()),
                           ((3, 4, False, False), ()), ((4, 4, True, False), ())):
            left = row[:3] + (rules == (0,),)
            self.check(walk, ((), ()), row, (((), ()), left), rules)

    def test_behind_a_rule_the_visit_is_over_unless_on(self):
        for first, second, rules in ((False, False, (0,)), (False, True, (0,)),
                                     (True, False, (0, 1)), (True, True, (0, 1, 2))):
            walk = ruled(((), (("m0", True),), first), ((), (("m1", True),), second),
                         ((), (("k0", 0),), True))
            left = (0 if len(rules) == 3 else 9, True, len(rules) > 1)
            self.check(walk, ((), ()), (9, False, False), (((), ()), left), rules)

    def test_on_counts_only_where_the_rule_is_carried_out(self):
        walk = ruled(((("is", "m0", True),), (), False), ((), (("m0", True),), False))
        self.check(walk, ((), ()), (False,), (((), ()), (True,)), (1,))
        self.check(walk, ((), ()), (True,), (((), ()), (True,)), (0,))

    def test_a_rule_without_assignments_is_carried_out_too(self):
        walk = ruled(((), (), True), ((), (), False), ((), (("m0", True),), False))
        self.check(walk, ((), ()), (False,), (((), ()), (False,)), (0, 1))

    def test_a_rule_reads_what_an_earlier_one_has_set(self):
        walk = ruled(
            ((), (("r0", "k0"), ("f0", True)), True),
            ((("=", "r0", "k0"), ("is", "f0", True)), (("k0", 0),), True),
            ((("=", "k0", 0),), (("k1", "k0"), ("m0", "f0")), True),
            ((("=", "k1", 0), ("is", "m0", True)), (("r0", "k1"),), True),
            registers=(0,), flags=(False,))
        self.check(walk, ((9,), (False,)), (5, 6, False), (((0,), (True,)), (0, 0, True)),
                   (0, 1, 2, 3))

    def test_a_guard_that_holds_no_more(self):
        walk = ruled(((), (("m0", True),), True), ((("is", "m0", False),), (("m1", True),), False))
        self.check(walk, ((), ()), (False, False), (((), ()), (True, False)), (0,))

    def test_all_sources_are_read_before_any_target_is_set(self):
        walk = ruled(((), (("k0", "k1"), ("k1", "k0"), ("r0", "k0")), False), registers=(0,))
        self.check(walk, ((3,), ()), (1, 2), (((1,), ()), (2, 1)), (0,))
        walk = ruled(((), (("r0", "r1"), ("r1", "k0"), ("k0", "r0")), False), registers=(0, 0))
        self.check(walk, ((1, 2), ()), (3,), (((2, 3), ()), (1,)), (0,))
        walk = ruled(((), (("f0", "m0"), ("m0", "f1"), ("f1", "f0")), False), flags=(True, True))
        self.check(walk, ((), (True, False)), (False,), (((), (False, True)), (False,)), (0,))

    def test_every_kind_of_source(self):
        for one, key in ((0, 0), ("x0", 8), ("x1", 9), ("n0", 4), ("n2", 6), ("r0", 1), ("r1", 2),
                         ("k0", 11), ("k1", 12)):
            walk = ruled(((), (("k0", one), ("r1", one)), False), registers=(0, 0))
            wanted = (((1, key), ()), (key, 12))
            self.check(walk, ((1, 2), ()), (11, 12), wanted, (0,))
        for one, bit in ((True, True), (False, False), ("p0", True), ("g0", False), ("g1", True),
                         ("f0", False), ("f1", True), ("m0", False), ("m1", True)):
            walk = ruled(((), (("m0", one), ("f0", one)), False), flags=(True, True))
            wanted = (((), (bit, True)), (bit, True))
            self.check(walk, ((), (False, True)), (False, True), wanted, (0,))

    def test_every_kind_of_term_in_a_guard(self):
        state, row = ((1, 2), (False, True)), (11, 12, False, True)
        for one, key in (("x1", 9), ("n1", 5), ("r1", 2), ("k1", 12), ("r0", 1), ("k0", 11)):
            walk = ruled(((("=", one, one), ("!=", one, 0)), (), True),
                         ((("<", one, "k1"),), (), True), ((("<=", one, "n1"),), (), True),
                         registers=(0, 0), flags=(True, True))
            rules = (0,) + ((1,) if key < 12 else ()) + ((2,) if key <= 5 else ())
            self.check(walk, state, row, (state, row), rules)
        for one, bit in (("p0", True), ("g0", False), ("g1", True), ("f0", False), ("f1", True),
                         ("m0", False), ("m1", True)):
            walk = ruled(((("is", one, True),), (), True), ((("is", one, False),), (), True),
                         registers=(0, 0), flags=(True, True))
            self.check(walk, state, row, (state, row), (0,) if bit else (1,))

    def test_shapes(self):
        walk = ruled(((), (("r0", "x0"),), False), registers=(0,))
        for row in ((True,), (1,), (1, 2), (False, True), (1, True), (1, 2, True, False)):
            self.check(walk, ((0,), ()), row, (((8,), ()), row), (0,))

    def test_against_the_words_of_the_document(self):
        chance = random.Random(83)
        for _ in range(600):
            shape = chance.choice(((1, 0), (0, 1), (1, 1), (2, 2)))
            numbers = dict(zip("xpngkm", (2, 1, 3, 3, *shape)))
            walk, row = some_walk(chance, numbers), some_row(chance, shape, 5)
            names = ((2, 3), (chance.random() < 0.5,), (0, 1, 4), (False, True, True))
            state = slow_begin(walk, names)
            with self.subTest(walk=walk, row=row):
                self.assertEqual(begin(walk, names), state)
                rules, left, rewritten = slow_visit(walk, names, state, row)
                self.check(walk, state, row, (left, rewritten), rules, names)


class Go(unittest.TestCase):
    def check(self, walk, names, table):
        """All that is asked of a whole walk, against the words of the document."""
        keys, bits, now, states, steps = slow_go(walk, names, table)
        self.assertEqual(states_between(walk, names, table), states)
        self.assertEqual(len(states), len(table) + 1)
        self.assertEqual(go(walk, names, table), (keys, bits, now))
        self.assertEqual(visits(walk, names, table), steps)
        self.assertIs(goes(walk, names, table, states, now), True)
        return (keys, bits, now)

    def test_the_example_of_the_document(self):
        names, table = ((4,), (), (), ()), ((5,), (3,), (6,))
        self.assertEqual(self.check(CARRY, names, table), ((6,), (), ((4,), (3,), (5,))))
        states = states_between(CARRY, names, table)
        self.assertEqual(states, tuple(((key,), ()) for key in (4, 5, 5, 6)))
        down = turned(CARRY)
        self.assertEqual(self.check(down, names, table), ((6,), (), ((5,), (3,), (4,))))
        states = states_between(down, names, table)
        self.assertEqual(states, tuple(((key,), ()) for key in (6, 6, 6, 4)))

    def test_tables_without_rows(self):
        for direction in ("up", "down"):
            walk = ruled(((), (("r0", "k0"),), False), registers=("x0", 0), flags=("p0",),
                         results=("f0", "r0"), direction=direction)
            self.assertEqual(self.check(walk, NAMES, ()), ((8,), (True,), ()))
            self.assertEqual(states_between(walk, NAMES, ()), (((8, 0), (True,)),))
            self.assertEqual(visits(walk, NAMES, ()), ())

    def test_tables_with_one_row(self):
        for direction in ("up", "down"):
            walk = ruled(((), (("r0", "k0"), ("m0", "f0")), False), registers=("x0",),
                         flags=("p0",), results=("r0",), direction=direction)
            self.assertEqual(self.check(walk, NAMES, ((3, False),)), ((3,), (), ((3, True),)))
        self.assertEqual(states_between(walk, NAMES, ((3, False),)),
                         (((3,), (True,)), ((8,), (True,))))

    def test_tables_with_12_rows(self):
        table = tuple((at * 5 % 12,) for at in range(12))
        names = ((4,), (), (), ())
        # The greatest key goes on, and what stays is the greatest one of those before.
        met = [4, *(key for (key,) in table)]
        left = tuple((min(key, max(met[:at + 1])),) for at, (key,) in enumerate(table))
        self.assertEqual(self.check(CARRY, names, table), ((11,), (), left))
        down = self.check(turned(CARRY), names, table[::-1])
        self.assertEqual(down, ((11,), (), left[::-1]))

    def test_order_of_the_visits(self):
        # Each row gets the key of the row that was visited before.
        walk = ruled(((), (("r0", "k0"), ("k0", "r0")), False), registers=("x0",))
        table = ((1,), (2,), (3,))
        self.assertEqual(self.check(walk, NAMES, table)[2], ((8,), (1,), (2,)))
        self.assertEqual(self.check(turned(walk), NAMES, table)[2], ((2,), (3,), (8,)))
        self.assertEqual([at for at, _, _ in visits(walk, NAMES, table)], [0, 1, 2])
        self.assertEqual([at for at, _, _ in visits(turned(walk), NAMES, table)], [2, 1, 0])

    def test_results_in_any_order_and_twice(self):
        for results, keys, bits in (
            ((), (), ()), (("r1",), (9,), ()), (("f0",), (), (True,)), (("r1", "r0"), (9, 8), ()),
            (("r0", "r1"), (8, 9), ()), (("r0", "r0"), (8, 8), ()), (("f1", "f0"), (), (False, True)),
            (("f1", "f1"), (), (False, False)), (("f0", "r1"), (9,), (True,)),
            (("r1", "f0"), (9,), (True,)),
        ):
            walk = ruled(registers=("x0", "x1"), flags=("g1", "g0"), results=results)
            for table in ((), ((3,), (4,))):
                self.assertEqual(self.check(walk, NAMES, table), (keys, bits, table))

    def test_against_the_words_of_the_document(self):
        chance = random.Random(84)
        for _ in range(400):
            shape = chance.choice(((1, 0), (0, 1), (1, 1), (2, 2)))
            walk = some_walk(chance, dict(zip("xpngkm", (2, 1, 3, 3, *shape))))
            table = some_table(chance, shape, chance.choice((0, 1, 2, 3, 5, 12)))
            names = ((2, 3), (chance.random() < 0.5,), (0, 1, 4), (False, True, True))
            with self.subTest(walk=walk, table=table):
                keys, bits, now = self.check(walk, names, table)
                down = self.check(turned(walk), names, table[::-1])
                self.assertEqual(down, (keys, bits, now[::-1]))
                states = states_between(walk, names, table)
                self.assertEqual(states_between(turned(walk), names, table[::-1]), states[::-1])

    def test_mapped_keys(self):
        chance = random.Random(25)
        for _ in range(200):
            walk = some_walk(chance, dict(zip("xpngkm", (2, 1, 3, 3, 2, 1))))
            table = some_table(chance, (2, 1), 4)
            names = ((2, 3), (True,), (0, 1, 4), (False, True, True))
            rising = {0: 0, 1: 3, 2: 4, 3: 10 ** 40, 4: 10 ** 40 + 7}

            def mapped(value):
                if isinstance(value, tuple):
                    return tuple(mapped(part) for part in value)
                return value if isinstance(value, bool) else rising[value]

            with self.subTest(walk=walk, table=table):
                wanted = mapped(go(walk, names, table))
                self.assertEqual(go(walk, mapped(names), mapped(table)), wanted)
                rules = [one[1] for one in visits(walk, names, table)]
                self.assertEqual([one[1] for one in visits(walk, mapped(names), mapped(table))], rules)


class Visits(unittest.TestCase):
    def test_they_can_be_left_in_their_midst_and_asked_again(self):
        names, table = ((4,), (), (), ()), ((5,), (3,), (6,))
        wanted = visits(CARRY, names, table)
        first, second = (module.visits(CARRY, names, table) for _ in "ab")
        self.assertEqual(next(first), wanted[0])
        self.assertEqual(next(second), wanted[0])
        self.assertEqual(next(first), wanted[1])
        first.close()
        self.assertEqual(tuple(second), wanted[1:])
        self.assertEqual(tuple(module.visits(CARRY, names, table)), wanted)
        for one in module.visits(CARRY, names, table):
            self.assertEqual(one, wanted[0])
            break
        self.assertEqual(tuple(module.visits(CARRY, names, table)), wanted)

    def test_it_is_a_generator_of_plain_values(self):
        found = module.visits(CARRY, ((4,), (), (), ()), ((5,),))
        self.assertIs(iter(found), found)
        self.assertTrue(is_plain(tuple(found)))
        self.assertEqual(tuple(found), ())


class Goes(unittest.TestCase):
    def setUp(self):
        self.walk = ruled(
            ((("<", "r0", "k0"),), (("r0", "k0"), ("k0", "r0"), ("f0", True)), True),
            ((("is", "f0", True),), (("m0", True),), False),
            registers=("x0",), flags=(False,), results=("r0",))
        self.names = ((2,), (), (), ())
        self.table = ((1, False), (5, False), (3, True))

    def told(self, walk):
        return states_between(walk, self.names, self.table), go(walk, self.names, self.table)[2]

    def asked(self, walk, states, now):
        return goes(walk, self.names, self.table, states, now)

    def test_what_was_returned(self):
        for walk in (self.walk, turned(self.walk)):
            self.assertIs(self.asked(walk, *self.told(walk)), True)

    def test_too_few_and_too_many(self):
        for walk in (self.walk, turned(self.walk)):
            states, now = self.told(walk)
            for wrong in (states[:-1], states[1:], states + states[-1:], states[:1] + states, ()):
                self.assertIs(self.asked(walk, wrong, now), False)
            for wrong in (now[:-1], now[1:], now + now[-1:], now[:1] + now, ()):
                self.assertIs(self.asked(walk, states, wrong), False)
            self.assertIs(self.asked(walk, states[:-1], now[:-1]), False)
            self.assertIs(self.asked(walk, states + states[-1:], now + now[-1:]), False)

    def test_one_key_or_bit_changed(self):
        for walk in (self.walk, turned(self.walk)):
            states, now = self.told(walk)
            for at, (keys, bits) in enumerate(states):
                for other in (((keys[0] + 1,), bits), (keys, (not bits[0],))):
                    wrong = states[:at] + (other,) + states[at + 1:]
                    self.assertIs(self.asked(walk, wrong, now), False)
            for at, (key, bit) in enumerate(now):
                for other in ((key + 1, bit), (key, not bit)):
                    wrong = now[:at] + (other,) + now[at + 1:]
                    self.assertIs(self.asked(walk, states, wrong), False)

    def test_the_other_direction(self):
        states, now = self.told(self.walk)
        self.assertIs(self.asked(turned(self.walk), states, now), False)
        self.assertIs(self.asked(turned(self.walk), states[::-1], now), False)

    def test_without_rows(self):
        walk = ruled(((), (("r0", "k0"),), False), registers=("x0",))
        for direction in (walk, turned(walk)):
            self.assertIs(goes(direction, self.names, (), (((2,), ()),), ()), True)
            for states, now in (((((1,), ()),), ()), ((), ()), ((((2,), ()),) * 2, ()),
                                ((((2,), ()),), ((3, True),))):
                self.assertIs(goes(direction, self.names, (), states, now), False)

    def test_other_rows_found(self):
        states, now = self.told(self.walk)
        found = ((1, False), (6, False), (3, True))
        self.assertIs(goes(self.walk, self.names, found, states, now), False)

    def test_all_states_and_tables_of_a_small_walk(self):
        walk = ruled(((("is", "m0", True),), (("f0", "m0"), ("m0", "f0")), False), flags=(False,))
        rows = [(False,), (True,)]
        for direction in (walk, turned(walk)):
            for found in product(rows, repeat=2):
                _, _, left, between, _ = slow_go(direction, NONE, found)
                for now in product(rows, repeat=2):
                    for bits in product(rows, repeat=3):
                        states = tuple(((), bit) for bit in bits)
                        wanted = states == between and now == left
                        self.assertIs(goes(direction, NONE, found, states, now), wanted)


if __name__ == "__main__":
    unittest.main()
