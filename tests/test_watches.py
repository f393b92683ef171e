"""Watches: [161], with the needs of [44]."""

import random
import unittest
from itertools import product

from anylength import watches as module
from anylength.clauses import keeps, verdicts
from tests.support import asked, slow_terms, some_formula, some_table

watch_layout = asked(module.watch_layout)
watched = asked(module.watched)
right_at_end = asked(module.right_at_end)
# No part of the interface: told tables pick no row twice, but questions can.
step = asked(module.watch_step)

NOTHING = ((), ())
ASCENDING = ((("<=", "k0", "K0"),),)
MARKED = ((("is", "m0", True),),)
# The first row needs w0 and k1, u1 and m0; the second one and the names are no needs.
NEEDY = (
    (("<", "w0", "W0"), ("is", "m0", True), ("is", "u1", False)),
    (("<", "k1", "x0"), ("is", "M1", True), ("is", "q0", True)),
)
EVERY_WATCH = (
    ("each", False), ("next", False), ("some", False),
    ("each", True), ("some", True), ("next", True), ("pairs", True),
)


def on(clause, broken, table, *, row=None):
    """The states of a watch over a table that is as it was found, without names."""
    return watched(clause, broken, NOTHING, NOTHING, table, table, row=row)


class Layout(unittest.TestCase):
    def test_first_bits(self):
        wanted = ((), ("begun",), ("seen",), ("hit",), (), ("hit", "begun"), ("hit", "held"))
        for (kind, broken), words in zip(EVERY_WATCH, wanted):
            for formula in ((), ((),)):
                with self.subTest(kind=kind, broken=broken):
                    self.assertEqual(watch_layout((kind, formula), broken), ((), words))

    def test_needs_of_watches_that_keep_rows(self):
        for kind, broken, words in (("next", False, ("begun",)), ("next", True, ("hit", "begun")),
                                    ("pairs", True, ("hit", "held"))):
            with self.subTest(kind=kind, broken=broken):
                wanted = (("w0", "k1"), words + ("u1", "m0"))
                self.assertEqual(watch_layout((kind, NEEDY), broken), wanted)

    def test_each_and_some_keep_no_row(self):
        formula = ((("<", "w0", "k1"), ("is", "m0", True), ("is", "u1", False)),)
        for kind, broken, words in (("each", False, ()), ("some", False, ("seen",)),
                                    ("each", True, ("hit",)), ("some", True, ())):
            with self.subTest(kind=kind, broken=broken):
                self.assertEqual(watch_layout((kind, formula), broken), ((), words))


class Watched(unittest.TestCase):
    def test_tables_without_rows(self):
        for kind, broken in EVERY_WATCH:
            with self.subTest(kind=kind, broken=broken):
                keys, bits = watch_layout((kind, ASCENDING), broken)
                wanted = (((0,) * len(keys), (False,) * len(bits)),)
                self.assertEqual(on((kind, ASCENDING), broken, ()), wanted)

    def test_each_to_be_kept(self):
        table = ((True,), (True,), (False,), (True,))
        self.assertEqual(on(("each", MARKED), False, table), (((), ()),) * 3)
        self.assertEqual(on(("each", MARKED), False, table[:2]), (((), ()),) * 3)
        self.assertEqual(on(("each", MARKED), False, table[2:]), (((), ()),))

    def test_some_to_be_kept(self):
        table = ((False,), (True,), (False,))
        states = on(("some", MARKED), False, table)
        self.assertEqual(states, tuple(((), (bit,)) for bit in (False, False, True, True)))

    def test_each_to_be_broken(self):
        table = ((True,), (False,), (True,))
        states = on(("each", MARKED), True, table)
        self.assertEqual(states, tuple(((), (bit,)) for bit in (False, False, True, True)))

    def test_some_to_be_broken(self):
        table = ((False,), (False,), (True,), (False,))
        self.assertEqual(on(("some", MARKED), True, table), (((), ()),) * 3)
        self.assertEqual(on(("some", MARKED), True, table[:2]), (((), ()),) * 3)

    def test_next_to_be_kept(self):
        table = ((4,), (4,), (7,), (2,), (9,))
        wanted = (((0,), (False,)), ((4,), (True,)), ((4,), (True,)), ((7,), (True,)))
        self.assertEqual(on(("next", ASCENDING), False, table), wanted)
        self.assertEqual(on(("next", ASCENDING), False, table[3:]),
                         (((0,), (False,)), ((2,), (True,)), ((9,), (True,))))

    def test_next_to_be_broken(self):
        table = ((4,), (7,), (2,), (1,), (9,))
        hit = ((0,), (True, False))
        wanted = (((0,), (False, False)), ((4,), (False, True)), ((7,), (False, True)))
        self.assertEqual(on(("next", ASCENDING), True, table), wanted + (hit,) * 3)

    def test_pairs_to_be_broken_with_each_row_picked(self):
        table = ((5,), (3,), (6,), (4,))
        start, hit = ((0,), (False, False)), ((0,), (True, False))
        held = {key: ((key,), (False, True)) for (key,) in table}
        clause = ("pairs", ASCENDING)
        self.assertEqual(on(clause, True, table), (start,) * 5)
        self.assertEqual(on(clause, True, table, row=0), (start, held[5], hit, hit, hit))
        self.assertEqual(on(clause, True, table, row=1), (start, start) + (held[3],) * 3)
        self.assertEqual(on(clause, True, table, row=2), (start,) * 3 + (held[6], hit))
        self.assertEqual(on(clause, True, table, row=3), (start,) * 4 + (held[4],))

    def test_a_second_row_that_is_picked_is_refused(self):
        names = (("x0", 1), ("q0", True))
        for bits in ((True, False), (False, True), (True, True)):
            with self.subTest(bits=bits):
                found = step(("pairs", ASCENDING), True, names, ((3,), bits), ((9,), (9,)), True)
                self.assertIsNone(found)
        found = step(("pairs", ASCENDING), True, names, ((0,), (False, False)), ((8,), (9,)), True)
        self.assertEqual(found, ((9,), (False, True)))

    def test_it_lets_go_of_kept_bits_too(self):
        formula = ((("<", "k0", "K0"), ("is", "m0", True), ("is", "u0", True)),)
        table = ((3, True), (5, True), (5, True))
        kept = [((key,), (False, True, True, True)) for key in (3, 5)]
        start = ((0,), (False,) * 4)
        hit = ((0,), (True, False, False, False))
        self.assertEqual(on(("next", formula), True, table), (start, kept[0], kept[1], hit))
        self.assertEqual(on(("pairs", formula), True, table, row=1), (start, start, kept[1], hit))

    def test_what_is_kept_is_what_the_needed_terms_read(self):
        found = ((3, 9, True, True), (8, 8, False, False))
        now = ((0, 6, True, False), (1, 7, False, True))
        givens, results = ((6,), ()), ((), (True,))
        wanted = (
            ((0, 0), (False, False, False)),
            ((3, 6), (True, True, True)),
        )
        states = watched(("next", NEEDY), False, givens, results, found, now)
        self.assertEqual(states, wanted)
        states = watched(("next", NEEDY), False, ((7,), ()), results, found, now)
        self.assertEqual(states, wanted + (((8, 7), (True, False, False)),))
        states = watched(("pairs", NEEDY), True, givens, results, found, now, row=0)
        self.assertEqual(states[1:], (((3, 6), (False, True, True, True)),
                                      ((0, 0), (True, False, False, False))))

    def test_names_are_read(self):
        formula = ((("<", "x0", "k0"), ("<", "k0", "y0"), ("is", "p0", True), ("is", "q0", False)),)
        table = ((4,), (5,))
        for kind, broken, bits in (("each", True, (False, False, True)),
                                   ("some", False, (False, True, True))):
            states = watched((kind, formula), broken, ((3,), (True,)), ((5,), (False,)), table, table)
            self.assertEqual(states, tuple(((), (bit,)) for bit in bits))

    def test_rows_found_and_now(self):
        formula = ((("<", "w0", "k0"),),)
        found, now = ((1,), (5,)), ((2,), (5,))
        states = watched(("each", formula), False, NOTHING, NOTHING, found, now)
        self.assertEqual(states, (((), ()), ((), ())))
        second = ((("<", "W0", "K0"),),)
        states = watched(("next", second), False, NOTHING, NOTHING, found, now)
        self.assertEqual(states, (((), (False,)), ((), (True,))))


class RightAtEnd(unittest.TestCase):
    def test_every_state_of_every_watch(self):
        # The first bit counts where there is "hit" or "seen", and nothing else.
        counts = (False, False, True, True, False, True, True)
        for (kind, broken), first in zip(EVERY_WATCH, counts):
            keys, bits = watch_layout((kind, NEEDY), broken)
            for values in product((False, True), repeat=len(bits)):
                for key in (0, 5):
                    state = ((key,) * len(keys), values)
                    with self.subTest(kind=kind, broken=broken, state=state):
                        wanted = values[0] if first else True
                        self.assertIs(right_at_end((kind, NEEDY), broken, state), wanted)


class Meaning(unittest.TestCase):
    """A watch is right at the end of all rows exactly if the clause is kept, or broken."""

    def setUp(self):
        self.chance = random.Random(161)

    def questions(self, many):
        for _ in range(many):
            kind = self.chance.choice(("each", "some", "next", "pairs"))
            keys, bits = ("k0", "w0", "x0", "y0"), ("m0", "u0", "q0")
            if kind in ("next", "pairs"):
                keys, bits = ("k0", "w0", "K0", "W0", "x0"), ("m0", "u0", "M0", "U0")
            formula = some_formula(self.chance, keys, bits)
            if self.chance.random() < 0.6:
                formula += ((("<=", keys[1], keys[2]),),)
            rows = self.chance.randrange(7)
            names = ((self.chance.randrange(4),), ()), ((self.chance.randrange(4),), (True,))
            found, now = (some_table(self.chance, (1, 1), rows) for _ in "ab")
            yield (kind, formula), (*names, found, now)

    def test_to_keep(self):
        for clause, asked_for in self.questions(500):
            if clause[0] == "pairs":
                continue
            with self.subTest(clause=clause, asked_for=asked_for):
                states = watched(clause, False, *asked_for)
                truths = verdicts(clause, *asked_for)
                if clause[0] == "some":
                    right = tuple(right_at_end(clause, False, state) for state in states)
                    self.assertEqual(right, truths)
                else:
                    self.assertEqual(len(states), sum(truths))
                    self.assertTrue(all(right_at_end(clause, False, state) for state in states))

    def test_to_break(self):
        for clause, asked_for in self.questions(700):
            with self.subTest(clause=clause, asked_for=asked_for):
                rows = len(asked_for[-1])
                picks = (None, *range(rows)) if clause[0] == "pairs" else (None,)
                broken = [False] * (rows + 1)
                for pick in picks:
                    states = watched(clause, True, *asked_for, row=pick)
                    for at, state in enumerate(states):
                        broken[at] |= right_at_end(clause, True, state)
                self.assertEqual([not truth for truth in verdicts(clause, *asked_for)], broken)

    def test_states_have_the_form_of_the_layout(self):
        for clause, asked_for in self.questions(300):
            keys, bits = watch_layout(clause, True)
            needed = [term for term in slow_terms(clause[1]) if term[0] in "wkum"]
            keeps_rows = clause[0] in ("next", "pairs")
            first = {"each": 1, "some": 0, "next": 2, "pairs": 2}[clause[0]]
            self.assertEqual(len(keys) + len(bits) - first, len(needed) if keeps_rows else 0)
            for state in watched(clause, True, *asked_for):
                self.assertEqual([len(part) for part in state], [len(keys), len(bits)])
                self.assertTrue(all(type(key) is int for key in state[0]))
                self.assertTrue(all(type(bit) is bool for bit in state[1]))

    def test_a_row_that_breaks_a_pair_is_found_from_the_first_of_it(self):
        for clause, asked_for in self.questions(400):
            if clause[0] != "pairs":
                continue
            for pick in range(len(asked_for[-1])):
                last = watched(clause, True, *asked_for, row=pick)[-1]
                two = [tuple(table[i] for i in (pick, j)) for j in range(pick + 1, len(asked_for[-1]))
                       for table in asked_for[2:]]
                pairs = list(zip(two[::2], two[1::2]))
                wanted = any(not keeps(clause, *asked_for[:2], *pair) for pair in pairs)
                with self.subTest(clause=clause, asked_for=asked_for, pick=pick):
                    self.assertIs(right_at_end(clause, True, last), wanted)
                    self.assertIs(last[1][1], not wanted)


if __name__ == "__main__":
    unittest.main()
