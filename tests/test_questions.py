"""Questions, row by row: [160] to [164], [170], [220], [221] and [241] as far as they go here.

What is guessed at entering and in a column is that of [165] and [166].
"""

import random
import unittest

from anylength import questions as module
from anylength.libraries import check_library
from anylength.orders import count_orders
from anylength.watches import watch_layout
from tests.making import some_library
from tests.slow import slow_clause, slow_items, slow_sum
from tests.support import asked
from tests.told import POOL, some_alike, some_question

layout = asked(module.layout)
guessed = asked(module.guessed)
width = asked(module.width)

ALWAYS = ((),)
MARKED = ((("is", "m0", True),),)
ASCENDING = ((("<=", "k0", "K0"), ("is", "m0", True)),)
SET = ("up", (), (), (((), (("m0", True),), False),), ())


def contract(takes=(0, 0), gives=(0, 0), before=(), after=(), falls=None):
    return (takes, gives, before, after, falls)


def call(unit, keys=(), bits=(), guard=()):
    return ("call", unit, keys, bits, guard)


def walk(registers=0, flags=0, results=(), direction="up"):
    return (direction, (0,) * registers, (True,) * flags, (), results)


def names(*words):
    return tuple(("name", word) for word in words)


def of(place, *words):
    return tuple((*place, word) for word in words)


class Case(unittest.TestCase):
    def setUp(self):
        self.shape = (1, 1)

    def asked(self, aim, *units, unit=0):
        """The question, of a right library."""
        library = (self.shape, units)
        self.assertIsNone(check_library(library))
        return (library, unit, aim)

    def check(self, question, keys, bits):
        """The layout, and whether the width is what it tells."""
        self.assertEqual(layout(question), (keys, bits))
        self.check_width(question)

    def check_width(self, question):
        keys, bits = layout(question)
        more_keys, more_bits = guessed(question)[1]
        wanted = count_orders(len(keys + more_keys)) * 2 ** len(bits + more_bits)
        self.assertEqual(width(question), wanted)

    def guesses(self, question, entering, column):
        self.assertEqual(guessed(question), (entering, column))


class Names(Case):
    def test_nothing_but_a_row(self):
        question = self.asked(("clause", ("names", ALWAYS)), (contract(), ((), (), ())))
        self.check(question, (), ())
        self.guesses(question, ((), ()), ((("found", "k0"),), (("found", "m0"),)))
        self.assertEqual(width(question), 4)

    def test_shapes(self):
        for fields, marks in ((0, 1), (1, 0), (2, 0), (0, 2), (2, 2), (1, 2)):
            self.shape = (fields, marks)
            question = self.asked(("clause", ("names", ALWAYS)), (contract(), ((), (), ())))
            found = (tuple(("found", f"k{at}") for at in range(fields)),
                     tuple(("found", f"m{at}") for at in range(marks)))
            self.guesses(question, ((), ()), found)
            self.assertEqual(width(question), (1, 2, 6)[fields] * 2 ** marks)

    def test_givens_made_names_and_the_value(self):
        change = ("change", ((("=", "k0", "v0"),),), 1, ())
        items = (walk(1, 2, ("r0", "f1")), call(1), walk(1, 0, ("r0", "r0")))
        units = ((contract((2, 1), after=(change,)), (items, (), ())),
                 (contract((0, 0), (0, 1)), None))
        question = self.asked(("after", 0), *units)
        keys = (*names("x0", "x1", "n0", "n1", "n2"), ("value", "v0"))
        states = (("item", 0, "r0"), ("item", 2, "r0"))
        bits = names("p0", "g0", "g1")
        flags = (("item", 0, "f0"), ("item", 0, "f1"))
        self.check(question, keys + states, bits + flags)
        ghost = ((("found", "k0"), ("item", 1, "k0")), (("found", "m0"), ("item", 1, "m0")))
        self.guesses(question, (keys, bits), ghost)

    def test_a_change_clause_without_a_value(self):
        change = ("change", MARKED, 0, ())
        for aim in (("after", 0), ("clause", change)):
            question = self.asked(aim, (contract(after=(change,)), ((SET,), (), ())))
            self.check(question, (), ())

    def test_a_change_clause_with_a_value_that_is_not_read(self):
        change = ("change", MARKED, 1, ())
        question = self.asked(("clause", change), (contract(), ((SET,), (), ())))
        self.check(question, (("value", "v0"),), ())
        value = (("value", "v0"),)
        self.guesses(question, (((value), ())), ((("found", "k0"),), (("found", "m0"),)))


class Watches(Case):
    def test_each_row_of_the_table_to_be_kept(self):
        before = ("before", 1)
        for kind, formula, keys, bits in (
            ("each", MARKED, (), ()), ("next", ASCENDING, of(before, "k0"), of(before, "begun", "m0")),
            ("some", MARKED, (), of(before, "seen")), ("next", MARKED, (), of(before, "begun", "m0")),
            ("names", ALWAYS, (), ()),
        ):
            told = contract(before=(("names", ALWAYS), (kind, formula)))
            question = self.asked(("clause", ("names", ())), (told, ((), (), ())))
            self.check(question, keys, bits)
            self.guesses(question, ((), ()), ((("found", "k0"),), (("found", "m0"),)))

    def test_each_row_of_the_table_to_be_broken(self):
        goal, needy = ("goal",), ((("<", "w0", "K0"), ("<", "k0", "W0"), ("is", "u0", True)),)
        for kind, formula, keys, bits in (
            ("each", needy[:0], (), of(goal, "hit")), ("some", MARKED, (), ()),
            ("next", needy, of(goal, "w0", "k0"), of(goal, "hit", "begun", "u0")),
            ("pairs", needy, of(goal, "w0", "k0"), of(goal, "hit", "held", "u0")),
            ("pairs", ASCENDING, of(goal, "k0"), of(goal, "hit", "held", "m0")),
            ("names", ALWAYS, (), ()),
        ):
            clause = (kind, formula)
            for aim in (("after", 0), ("clause", clause)):
                question = self.asked(aim, (contract(after=(clause,)), ((), (), ())))
                self.check(question, keys, bits)
                picked = (("pick",),) if kind == "pairs" else ()
                column = ((("found", "k0"),), (("found", "m0"), *picked))
                self.guesses(question, ((), ()), column)

    def test_a_clause_of_before_of_a_called_unit(self):
        clauses = (("names", ALWAYS), ("next", ASCENDING), ("some", MARKED), ("each", MARKED))
        goals = (((), ()), (of(("goal",), "k0"), of(("goal",), "hit", "begun", "m0")), ((), ()),
                 ((), of(("goal",), "hit")))
        for clause, (keys, bits) in zip(clauses, goals):
            units = ((contract(), ((SET, call(1)), (), ())), (contract(before=(clause,)), None))
            question = self.asked(("call", 1, 0), *units)
            self.check(question, keys, bits)

    def test_falls_has_no_goal(self):
        units = ((contract(falls=(MARKED, 1)), ((walk(1), call(0)), (), ())),)
        self.check(self.asked(("falls", 1), *units), (("item", 0, "r0"),), ())


class Parts(Case):
    def test_their_order(self):
        units = (
            (contract((1, 1), before=(("next", ASCENDING), ("some", MARKED)),
                      after=(("next", ASCENDING),)),
             ((walk(2, 1), call(1), walk(1, 2)), (), ())),
            (contract(after=(("some", MARKED), ("names", ALWAYS), ("next", ASCENDING))), None),
        )
        question = self.asked(("after", 0), *units)
        keys = (*names("x0"), ("before", 0, "k0"), *of(("item", 0), "r0", "r1"),
                ("item", 1, 2, "k0"), ("item", 2, "r0"), ("goal", "k0"))
        bits = (*names("p0"), *of(("before", 0), "begun", "m0"), ("before", 1, "seen"),
                ("item", 0, "f0"), ("item", 1, 0, "seen"), *of(("item", 1, 2), "begun", "m0"),
                *of(("item", 2), "f0", "f1"), *of(("goal",), "hit", "begun", "m0"))
        self.check(question, keys, bits)
        self.guesses(question, (names("x0"), names("p0")),
                     ((("found", "k0"), ("item", 1, "k0")), (("found", "m0"), ("item", 1, "m0"))))

    def test_calls_with_several_watched_clauses(self):
        after = (("next", ASCENDING), ("each", MARKED), ("next", ((("<", "w0", "K0"),),)))
        units = ((contract(), ((call(1), call(1)), (), ())), (contract(after=after), None))
        question = self.asked(("clause", ("some", MARKED)), *units)
        keys, bits = (), ()
        for i in (0, 1):
            keys += (("item", i, 0, "k0"), ("item", i, 2, "w0"))
            bits += (*of(("item", i, 0), "begun", "m0"), ("item", i, 2, "begun"))
        self.check(question, keys, bits)
        rows = (("found",), ("item", 0), ("item", 1))
        column = tuple((*place, "k0") for place in rows), tuple((*place, "m0") for place in rows)
        self.guesses(question, ((), ()), column)

    def test_pairs_and_change_of_a_called_unit_are_not_watched(self):
        after = (("pairs", ASCENDING), ("change", MARKED, 1, ()), ("names", ALWAYS))
        units = ((contract(), ((call(1),), (), ())), (contract(after=after), None))
        self.check(self.asked(("clause", ("names", ())), *units), (), ())

    def test_before_and_change_of_a_called_unit_play_no_part(self):
        units = ((contract(), ((call(1),), (), ())),
                 (contract(before=(("some", MARKED), ("next", ASCENDING)), falls=(MARKED, 1)), None))
        self.check(self.asked(("clause", ("names", ())), *units), (), ())

    def test_walks_upwards_and_downwards(self):
        items = (walk(1, 1, ("r0",), "down"), walk(2, 0, ("r1",)), walk(0, 2, ("f0",), "down"))
        question = self.asked(("clause", ("names", ())), (contract((1, 0)), (items, (), ())))
        registers = (("item", 0, "r0"), *of(("item", 1), "r0", "r1"))
        flags = (("item", 0, "f0"), *of(("item", 2), "f0", "f1"))
        self.check(question, names("x0", "n0", "n1") + registers, names("g0") + flags)
        down = (registers[:1], flags)
        self.guesses(question, (names("x0", "n0", "n1") + down[0], names("g0") + down[1]),
                     ((("found", "k0"), *down[0]), (("found", "m0"), *down[1])))

    def test_ghosts_come_ahead_of_walks_downwards_and_the_pick_last(self):
        self.shape = (2, 2)
        items = (walk(1, 1, (), "down"), call(1), walk(2, 1, (), "down"), call(1))
        units = ((contract(), (items[:3], (), ())), (contract(), None))
        question = self.asked(("clause", ("pairs", ASCENDING)), *units)
        keys = (*of(("found",), "k0", "k1"), *of(("item", 1), "k0", "k1"), ("item", 0, "r0"),
                *of(("item", 2), "r0", "r1"))
        bits = (*of(("found",), "m0", "m1"), *of(("item", 1), "m0", "m1"), ("item", 0, "f0"),
                ("item", 2, "f0"), ("pick",))
        entering = ((("item", 0, "r0"), *of(("item", 2), "r0", "r1")),
                    (("item", 0, "f0"), ("item", 2, "f0")))
        self.guesses(question, entering, (keys, bits))

    def test_only_the_items_of_the_question(self):
        items = (walk(1, 0, ("r0",), "down"), call(0), walk(1, 1, ("f0",), "down"))
        told = contract(before=(("some", MARKED),), falls=(MARKED, 1), after=(("each", MARKED),))
        for aim in (("call", 1, 0), ("falls", 1)):
            question = self.asked(aim, (told, (items, (), ())))
            self.check(question, (*names("n0"), ("item", 0, "r0")), (("before", 0, "seen"),))
            self.guesses(question, ((*names("n0"), ("item", 0, "r0")), ()),
                         ((("found", "k0"), ("item", 0, "r0")), (("found", "m0"),)))
        question = self.asked(("after", 0), (told, (items, (), ())))
        self.check(question, (*names("n0"), ("item", 0, "r0"), ("item", 2, "r0")),
                   (*names("g0"), ("before", 0, "seen"), ("item", 2, "f0"), ("goal", "hit")))

    def test_a_call_that_is_first(self):
        told = contract(before=(("each", MARKED),))
        question = self.asked(("call", 0, 0), (told, ((call(0), SET), (), ())))
        self.check(question, (), (("goal", "hit"),))


class Seen(Case):
    def body(self):
        return (contract((2, 1), (1, 1)), ((walk(1, 1, ("r0", "f0"), "down"),), ("n0",), ("g0",)))

    def test_with_row_terms(self):
        question = self.asked(("seen", ("k0", "x1", "w0"), ("m0", "q0")), self.body())
        keys, bits = names("x0", "x1", "n0"), names("p0", "g0")
        self.check(question, keys + (("item", 0, "r0"), ("goal", "k0"), ("goal", "w0")),
                   bits + (("item", 0, "f0"), ("goal", "held"), ("goal", "m0")))
        self.guesses(question, (keys + (("item", 0, "r0"),), bits + (("item", 0, "f0"),)),
                     ((("found", "k0"), ("item", 0, "r0")),
                      (("found", "m0"), ("item", 0, "f0"), ("pick",))))

    def test_only_bits_or_only_keys_of_a_row(self):
        for keys, bits in (((), ("u0",)), ((), ("u0", "m0")), (("w0",), ()), (("y0", "w0"), ("p0",))):
            question = self.asked(("seen", keys, bits), self.body())
            rows = [[term for term in part if term[0] in "wkum"] for part in (keys, bits)]
            self.check(question, (*names("x0", "x1", "n0"), ("item", 0, "r0"), *of(("goal",), *rows[0])),
                       (*names("p0", "g0"), ("item", 0, "f0"), *of(("goal",), "held", *rows[1])))
            self.assertEqual(guessed(question)[1][1][-1], ("pick",))

    def test_without_row_terms(self):
        for keys, bits in (((), ()), (("x0", "y0"), ("p0", "q0")), (("y0",), ())):
            question = self.asked(("seen", keys, bits), self.body())
            self.check(question, (*names("x0", "x1", "n0"), ("item", 0, "r0")),
                       (*names("p0", "g0"), ("item", 0, "f0")))
            self.assertEqual(guessed(question)[1],
                             ((("found", "k0"), ("item", 0, "r0")), (("found", "m0"), ("item", 0, "f0"))))

    def test_calls_and_before(self):
        units = ((contract(before=(("some", MARKED),), after=(("change", MARKED, 1, ()),)),
                  ((call(1),), (), ())), (contract(after=(("some", MARKED),)), None))
        question = self.asked(("seen", ("k0",), ()), *units)
        self.check(question, (("goal", "k0"),),
                   (("before", 0, "seen"), ("item", 0, 0, "seen"), ("goal", "held")))
        self.guesses(question, ((), ()), ((("found", "k0"), ("item", 0, "k0")),
                                          (("found", "m0"), ("item", 0, "m0"), ("pick",))))


class Same(Case):
    def test_names_clauses_and_items_are_numbered_on(self):
        clauses = (("names", ALWAYS), ("some", MARKED)), (("next", ASCENDING), ("some", MARKED))
        items = (SET, walk(1, 1, ("r0", "f0"))), (walk(2, 1, ("r1", "r0"), "down"), SET,
                                                  walk(0, 1, ("f0",), "down"))
        units = ((contract((1, 1), before=clauses[0]), (items[0], (), ())),
                 (contract((1, 1), before=clauses[1], after=(("change", MARKED, 1, ()),)),
                  (items[1], (), ())))
        question = self.asked(("same", 1), *units)
        keys = (*names("x0", "n0", "n1", "n2"), ("before", 2, "k0"), ("item", 1, "r0"),
                *of(("item", 2), "r0", "r1"))
        bits = (*names("p0", "g0", "g1"), ("before", 1, "seen"), *of(("before", 2), "begun", "m0"),
                ("before", 3, "seen"), ("item", 1, "f0"), ("item", 2, "f0"), ("item", 4, "f0"),
                ("goal", "hit"))
        self.check(question, keys, bits)
        down = (of(("item", 2), "r0", "r1"), (("item", 2, "f0"), ("item", 4, "f0")))
        self.guesses(question, (names("x0", "n0", "n1", "n2") + down[0], names("p0", "g0", "g1") + down[1]),
                     ((("found", "k0"), *down[0]), (("found", "m0"), *down[1])))

    def test_the_same_unit(self):
        units = ((contract(before=(("some", MARKED),)), ((walk(1, 0, ("r0",)),), (), ())),)
        question = self.asked(("same", 0), *units)
        self.check(question, (*names("n0", "n1"), ("item", 0, "r0"), ("item", 1, "r0")),
                   (("before", 0, "seen"), ("before", 1, "seen"), ("goal", "hit")))

    def test_random_pairs(self):
        chance = random.Random(241)
        for _ in range(100):
            library = some_alike(chance)
            question = (library, 0, ("same", 1))
            found = slow_layout(question)
            with self.subTest(library=library):
                self.check(question, *found)
                self.assertEqual(guessed(question), slow_guessed(question))
                for unit in (0, 1):
                    self.check_width((library, unit, ("same", unit)))


def slow_layout(question):
    """The layout by the words of the document: [164], [221], [241]."""
    library, unit, aim = question
    contract, _ = library[1][unit]
    given, made, states = slow_parts(question)
    keys, bits = given[0] + made[0], given[1] + made[1]
    if slow_sum(question) and slow_sum(question)[1] == 1:
        keys.append(("value", "v0"))
    for more_keys, more_bits in states:
        keys += more_keys
        bits += more_bits
    return tuple(keys), tuple(bits)


def slow_parts(question):
    """The givens, the made names, and the states of the parts: pairs of lists of names."""
    library, unit, aim = question
    (takes, _, before, _, _), _ = library[1][unit]
    if aim[0] == "same":
        before += library[1][aim[1]][0][2]
    states = [watch(("before", c), clause, False) for c, clause in enumerate(before)]
    made = [0, 0]
    for i, item in enumerate(slow_items(question)):
        if item[0] == "call":
            contract = library[1][item[1]][0]
            more = contract[1]
            states += [watch(("item", i, c), one, False) for c, one in enumerate(contract[3])]
        else:
            more = [sum(term[0] == letter for term in item[4]) for letter in "rf"]
            states.append([[("item", i, f"{letter}{at}") for at in range(len(part))]
                           for letter, part in zip("rf", item[1:3])])
        made = [one + other for one, other in zip(made, more)]
    states += slow_goal(question)
    return ([[("name", f"{letter}{at}") for at in range(many)] for letter, many in zip("xp", takes)],
            [[("name", f"{letter}{at}") for at in range(many)] for letter, many in zip("ng", made)],
            states)


def watch(place, clause, broken):
    if clause[0] in ("names", "change") or (clause[0] == "pairs" and not broken):
        return [[], []]
    return [[(*place, word) for word in part] for part in watch_layout(clause, broken)]


def slow_goal(question):
    aim = question[2]
    if aim[0] == "same":
        return [[[], [("goal", "hit")]]]
    if aim[0] == "seen":
        rows = [[("goal", term) for term in part if term[0] in "wkum"] for part in aim[1:]]
        return [[rows[0], [("goal", "held"), *rows[1]]]] if rows[0] + rows[1] else []
    clause = slow_clause(question)
    return [] if clause is None else [watch(("goal",), clause, True)]


def slow_guessed(question):
    """What is guessed, by the words of the document: [165], [166]."""
    (fields, marks), aim = question[0][0], question[2]
    keys, bits = slow_layout(question)
    items = list(enumerate(slow_items(question)))
    down = [("item", i) for i, item in items if item[0] == "down"]
    rows = [("found",), *(("item", i) for i, item in items if item[0] == "call")]
    states = [tuple(name for name in part if name[:-1] in down and len(name) == 3)
              for part in (keys, bits)]
    entering = tuple(tuple(name for name in part if name[0] in ("name", "value")) + state
                     for part, state in zip((keys, bits), states))
    clause = slow_clause(question)
    picked = ("goal", "held") in bits and (clause is None or clause[0] == "pairs")
    column = (
        tuple((*place, f"k{at}") for place in rows for at in range(fields)) + states[0],
        tuple((*place, f"m{at}") for place in rows for at in range(marks)) + states[1]
        + ((("pick",),) if picked else ()),
    )
    return entering, column


class Width(Case):
    def test_great_ones(self):
        self.shape = (2, 2)
        items = (walk(2, 2, ("r0", "r1"), "down"), call(1), call(1))
        after = tuple(("next", ((("<", "k0", "K0"), ("<", "w1", "k1"), ("is", "m1", True)),))
                      for _ in range(3))
        before = (("next", ((("<", "k0", "K0"), ("<", "k1", "K0")),)),)
        units = ((contract((2, 1), before=before, after=(("pairs", after[0][1]),)), (items, (), ())),
                 (contract(after=after), None))
        question = self.asked(("after", 0), *units)
        keys, bits = layout(question)
        (more_keys, more_bits) = guessed(question)[1]
        self.assertEqual(len(keys + more_keys), 37)
        self.assertGreater(width(question), 10 ** 30)
        wanted = slow_count(37) * 2 ** len(bits + more_bits)
        self.assertEqual(width(question), wanted)

    def test_keys_and_bits_count_differently(self):
        for aim, wanted in ((("seen", (), ()), 2 * 2), (("seen", (), ("m0",)), 2 * 2 ** 4),
                            (("seen", ("k0",), ()), 6 * 2 ** 3),
                            (("clause", ("next", ASCENDING)), 6 * 2 ** 4),
                            (("clause", ("pairs", ASCENDING)), 6 * 2 ** 5),
                            (("clause", ("change", MARKED, 1, ())), 6 * 2),
                            (("same", 0), 2 * 2 ** 2)):
            question = self.asked(aim, (contract(), ((), (), ())))
            self.assertEqual(width(question), wanted)


def slow_count(many):
    """The number of orders of so many keys, by how many of them are 0 and how the others stand."""
    ways = [1]
    for size in range(1, many + 1):
        ways.append(sum(choose(size, first) * ways[size - first] for first in range(1, size + 1)))
    return sum(choose(many, zeros) * ways[many - zeros] for zeros in range(many + 1))


def choose(size, part):
    number = 1
    for at in range(part):
        number = number * (size - at) // (at + 1)
    return number


class Against(Case):
    def test_against_the_words_of_the_document(self):
        chance = random.Random(164)
        for at in range(400):
            question = some_question(chance, POOL if at % 2 else ())
            with self.subTest(question=question):
                self.check(question, *slow_layout(question))
                self.assertEqual(guessed(question), slow_guessed(question))

    def test_what_can_occur(self):
        chance = random.Random(220)
        for _ in range(150):
            library = some_library(chance, gaps=0)
            (takes, gives, *_), (fields, marks) = library[1][0][0], library[0]
            keys = [f"{letter}{at}" for letter, many in zip("xywk", (takes[0], gives[0], fields, fields))
                    for at in range(many)]
            bits = [f"{letter}{at}" for letter, many in zip("pqum", (takes[1], gives[1], marks, marks))
                    for at in range(many)]
            aim = ("seen", tuple(chance.sample(keys, min(len(keys), chance.randrange(4)))),
                   tuple(chance.sample(bits, min(len(bits), chance.randrange(3)))))
            with self.subTest(library=library, aim=aim):
                self.check((library, 0, aim), *slow_layout((library, 0, aim)))
                self.assertEqual(guessed((library, 0, aim)), slow_guessed((library, 0, aim)))


if __name__ == "__main__":
    unittest.main()
