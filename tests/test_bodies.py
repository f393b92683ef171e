"""Bodies: [101] to [104], with the letters of [80], [81] and the digits of [41]."""

import random
import unittest

from anylength import bodies as module
from anylength.errors import BadCall, BadResults, BadTerm, NoContract
from tests.making import (
    KEY_LETTERS,
    SHAPES,
    numbers_of,
    some_body,
    some_contract,
    some_library,
    with_other_terms,
)
from tests.support import asked

check_body = asked(module.check_body)
names_made = asked(module.names_made)

EVERY_LETTER = "xypqngrfkmwuKMWUv"
EMPTY = ("up", (), (), (), ())
# Makes n0 and g0 ahead of the item that is looked at.
MAKER = ("up", (0, 0), (True,), (), ("r1", "f0"))


def contract(takes=(0, 0), gives=(0, 0)):
    return (takes, gives, (), (), None)


# Unit 0 takes and gives nothing, unit 1 takes two keys and a bit, unit 2 gives two and one.
LIBRARY = ((2, 2), (
    (contract(), None),
    (contract((2, 1)), None),
    (contract((2, 1), (2, 1)), None),
))


class Case(unittest.TestCase):
    def fits(self, body, unit=0, library=LIBRARY):
        self.assertIsNone(check_body(library, unit, body))

    def fails(self, error, attribute, wanted, body, unit=0, library=LIBRARY):
        with self.assertRaises(error) as caught:
            module.check_body(library, unit, body)
        self.assertIs(type(caught.exception), error)
        if attribute is not None:
            self.assertEqual(getattr(caught.exception, attribute), wanted)

    def bad_term(self, term, *items, unit=0, library=LIBRARY):
        self.fails(BadTerm, "term", term, (items, (), ()), unit, library)

    def check(self, allowed, term, *items, unit=1):
        """Whether items of a unit that gives nothing fit, by whether the term is allowed."""
        if allowed:
            self.fits((items, (), ()), unit)
        else:
            self.bad_term(term, *items, unit=unit)


def read(term):
    return ("<=", term, 0) if term[0] in KEY_LETTERS else ("is", term, True)


def ruled(*rules, registers=(0, 0), flags=(True, True)):
    return ("up", registers, flags, rules, ())


class Letters(Case):
    def test_registers_and_flags(self):
        for letter in EVERY_LETTER:
            term = letter + "0"
            with self.subTest(term=term):
                if letter in KEY_LETTERS:
                    walk = ("down", (0, term), (), (), ())
                    self.check(letter in "xn", term, MAKER, walk)
                else:
                    walk = ("down", (), (False, term), (), ())
                    self.check(letter in "pg", term, MAKER, walk)

    def test_guards_of_rules(self):
        for letter in EVERY_LETTER:
            term = letter + "0"
            with self.subTest(term=term):
                for guard in ((read(term),), (read("k0"), read(term))):
                    walk = ruled(((), (), True), (guard, (), False))
                    self.check(letter in "xnrkpgfm", term, MAKER, walk)

    def test_targets(self):
        for letter in EVERY_LETTER:
            term = letter + "0"
            with self.subTest(term=term):
                worth = 0 if letter in KEY_LETTERS else False
                other = ("k1", 0) if letter in KEY_LETTERS else ("m1", True)
                walk = ruled(((), (other, (term, worth)), True))
                self.check(letter in "rfkm", term, MAKER, walk)

    def test_sources_of_assignments(self):
        for letter in EVERY_LETTER:
            term = letter + "0"
            for target in ("r1", "k1") if letter in KEY_LETTERS else ("f1", "m1"):
                with self.subTest(term=term, target=target):
                    walk = ruled(((), ((target, term),), True))
                    self.check(letter in "xnrkpgfm", term, MAKER, walk)

    def test_results_of_walks(self):
        for letter in EVERY_LETTER:
            term = letter + "0"
            for results in ((term,), ("r1", term), (term, "f1")):
                with self.subTest(results=results):
                    walk = ("up", (0, 0), (True, True), (), results)
                    self.check(letter in "rf", term, MAKER, walk)

    def test_what_calls_pass(self):
        for letter in EVERY_LETTER:
            term = letter + "0"
            with self.subTest(term=term):
                if letter in KEY_LETTERS:
                    call = ("call", 1, (0, term), (True,), ())
                    self.check(letter in "xn", term, MAKER, call)
                else:
                    call = ("call", 1, (0, 0), (term,), ())
                    self.check(letter in "pg", term, MAKER, call)

    def test_guards_of_calls(self):
        for letter in EVERY_LETTER:
            term = letter + "0"
            with self.subTest(term=term):
                call = ("call", 0, (), (), (read(term),))
                self.check(letter in "xnpg", term, MAKER, call)

    def test_what_the_body_gives_back(self):
        for letter in EVERY_LETTER:
            term = letter + "0"
            with self.subTest(term=term):
                if letter in KEY_LETTERS:
                    body, allowed = ((MAKER,), (0, term), (True,)), letter in "xn"
                else:
                    body, allowed = ((MAKER,), (0, 0), (term,)), letter in "pg"
                if allowed:
                    self.fits(body, 2)
                else:
                    self.fails(BadTerm, "term", term, body, 2)


class Digits(Case):
    def walks(self, term):
        """Walks that read, set and give back the term, each where it may stand."""
        letter, source = term[0], term[0] in KEY_LETTERS
        if letter in "xn":
            yield ("up", (term,), (), (), ())
        if letter in "pg":
            yield ("up", (), (term,), (), ())
        yield ruled(((read(term),), (), False), registers=(0,), flags=(True,))
        yield ruled(((), (("k0" if source else "m0", term),), False), registers=(0,), flags=(True,))
        if letter in "rfkm":
            yield ruled(((), ((term, 0 if source else True),), False), registers=(0,), flags=(True,))
        if letter in "rf":
            yield ("up", (0,), (True,), (), (term,))

    def test_bounds(self):
        library = ((1, 1), ((contract((1, 0)), None), (contract((2, 1)), None)))
        for unit, numbers in ((0, {"x": 1, "p": 0}), (1, {"x": 2, "p": 1})):
            numbers = {**numbers, "k": 1, "m": 1, "r": 1, "f": 1, "n": 1, "g": 1}
            for letter, number in numbers.items():
                for digit in range(10):
                    term = f"{letter}{digit}"
                    for walk in self.walks(term):
                        with self.subTest(unit=unit, walk=walk):
                            if digit < number:
                                self.fits(((MAKER, walk), (), ()), unit, library)
                            else:
                                self.bad_term(term, MAKER, walk, unit=unit, library=library)

    def test_calls_and_results(self):
        for digit in range(4):
            for letter, number in (("x", 2), ("p", 1), ("n", 1), ("g", 1)):
                term = f"{letter}{digit}"
                for call in (("call", 0, (), (), (read(term),)),
                             ("call", 1, (term, 0), (True,), ()) if letter in "xn"
                             else ("call", 1, (0, 0), (term,), ())):
                    self.check(digit < number, term, MAKER, call)
                keys, bits = ((term, 0), (True,)) if letter in "xn" else ((0, 0), (term,))
                with self.subTest(term=term):
                    if digit < number:
                        self.fits(((MAKER,), keys, bits), 2)
                    else:
                        self.fails(BadTerm, "term", term, ((MAKER,), keys, bits), 2)

    def test_registers_and_flags_of_the_walk_itself(self):
        for registers in range(3):
            for digit in range(4):
                walk = ("up", (0,) * registers, (), (((read(f"r{digit}"),), (), False),), ())
                self.check(digit < registers, f"r{digit}", walk)
                walk = ("up", (), (True,) * registers, (), (f"f{digit}",))
                self.check(digit < registers, f"f{digit}", walk)

    def test_names_that_only_later_items_make(self):
        reader = ("up", ("n0",), (), (), ())
        self.check(True, "n0", MAKER, reader)
        self.bad_term("n0", reader, MAKER)
        self.bad_term("g0", ("up", (), ("g0",), (), ()), MAKER)
        self.bad_term("n0", ("call", 1, ("n0", 0), (True,), ()), MAKER)
        self.bad_term("g0", ("call", 0, (), (), (read("g0"),)), MAKER)

    def test_names_that_the_item_itself_makes(self):
        self.bad_term("n0", ("up", ("n0",), (), (), ("r0",)))
        self.bad_term("g0", ("up", (), (True,), (((read("g0"),), (), True),), ("f0",)))
        self.bad_term("n1", ("call", 2, (0, 0), (True,), ()), ("call", 2, ("n1", "n2"), ("g1",), ()),
                      library=((1, 0), (LIBRARY[1][0], LIBRARY[1][1], (contract((2, 1), (1, 1)), None))))
        self.bad_term("g0", ("call", 2, (0, 0), (True,), (read("g0"),)))

    def test_the_body_may_give_back_what_all_items_make(self):
        call = ("call", 2, (0, 0), (True,), ())
        self.fits(((call, EMPTY, MAKER), ("n2", "n0"), ("g1",)), 2)
        self.fails(BadTerm, "term", "n3", ((call, EMPTY, MAKER), ("n2", "n3"), ("g1",)), 2)
        self.fails(BadTerm, "term", "g2", ((call, EMPTY, MAKER), ("n2", "n0"), ("g2",)), 2)


class Targets(Case):
    def test_a_target_for_the_second_time(self):
        for target, worth in (("r0", 0), ("f0", True), ("k1", "k0"), ("m1", "m0")):
            once, other = (target, worth), ("k0", 0) if target != "k0" else ("k1", 0)
            self.bad_term(target, ruled(((), (once, once), True)))
            self.bad_term(target, ruled(((), (once, other, once), True)))
            self.bad_term(target, ruled(((), (other, once, once), False)))
            self.fits(((ruled(((), (once, other), True), ((), (other, once), True)),), (), ()))

    def test_it_comes_ahead_of_its_source(self):
        twice = (("k0", 0), ("k0", "y0"))
        self.bad_term("k0", ruled(((), twice, True)))
        self.bad_term("y0", ruled(((), twice[::-1], True)))

    def test_targets_with_other_digits_are_others(self):
        self.fits(((ruled(((), (("k0", "k1"), ("k1", "k0"), ("r0", "k0")), True)),), (), ()))


class Order(Case):
    def test_the_unit_has_no_contract(self):
        gap = ((1, 0), (None, (contract(), None)))
        wrong = ((("call", 0, ("y0",), (), ()),), ("y0",), ())
        for unit, library in ((0, gap), (2, gap), (3, gap), (3, LIBRARY)):
            self.fails(NoContract, "unit", unit, wrong, unit, library)
            self.fails(NoContract, "unit", unit, ((), (), ()), unit, library)

    def test_a_called_unit_has_no_contract(self):
        gap = ((1, 0), (None, (contract(), None)))
        for called in (0, 2, 3):
            call = ("call", called, ("y0",), ("g0",), (read("k0"),))
            self.fails(NoContract, "unit", called, ((call,), ("y0",), ()), 1, gap)
        self.fits(((("call", 1, (), (), ()),), (), ()), 1, gap)

    def test_a_call_passes_another_number(self):
        for keys, bits in (((), ()), ((0,), (True,)), ((0, 0), ()), ((0,), ()), ((), (True,))):
            call = ("call", 1, keys, bits, ())
            for at in range(3):
                items = (EMPTY,) * at + (call,)
                self.fails(BadCall, "item", at, (items, ("y0",), ()))
        self.fits(((("call", 1, (0, 0), (True,), ()),), (), ()))
        self.fails(BadCall, "item", 0, ((("call", 0, ("y0",), (), ()),), (), ()))
        self.fails(BadCall, "item", 0, ((("call", 0, (), ("q0",), ()),), (), ()))
        self.fails(BadCall, "item", 0, ((("call", 1, ("y0",), ("q0",), (read("k0"),)),), (), ()))

    def test_items_in_order(self):
        bad_walk = ("up", ("y0",), (), (), ())
        bad_call, no_call = ("call", 0, (0,), (), ()), ("call", 3, (), (), ())
        self.bad_term("y0", bad_walk, bad_call)
        self.fails(BadCall, "item", 0, ((bad_call, bad_walk), (), ()))
        self.fails(NoContract, "unit", 3, ((no_call, bad_walk, bad_call), (0,), ()))
        self.fails(BadCall, "item", 1, ((EMPTY, bad_call, no_call), (0,), ()))
        self.bad_term("y0", EMPTY, bad_walk, no_call)

    def test_of_a_walk_from_left_to_right(self):
        rule = ((read("y0"),), (("x0", "w0"),), False)
        walk = ("up", ("k0", "k1"), ("m0", "m1"), (rule,), ("n0",))
        self.bad_term("k0", walk)
        self.bad_term("k1", ("up", (0, "k1"), *walk[2:]))
        self.bad_term("m0", ("up", (0, 0), *walk[2:]))
        self.bad_term("m1", ("up", (0, 0), (True, "m1"), *walk[3:]))
        self.bad_term("y0", ("up", (), (), *walk[3:]))
        self.bad_term("x0", ("up", (), (), (((), *rule[1:]),), ("n0",)))
        self.bad_term("w0", ("up", (), (), (((), (("k0", "w0"), ("x0", 0)), False),), ("n0",)))
        self.bad_term("n0", ("up", (), (), (((), (("k0", 0),), False),), ("n0",)))
        two = (((), (("u0", True),), False), ((read("K0"),), (), True))
        self.bad_term("u0", ("up", (), (), two, ()))
        self.bad_term("K0", ("up", (), (), two[::-1], ()))

    def test_of_a_call_from_left_to_right(self):
        call = ("call", 1, ("k0", "k1"), ("m0",), (read("r0"), read("f0")))
        self.bad_term("k0", call)
        self.bad_term("k1", ("call", 1, (0, "k1"), *call[3:]))
        self.bad_term("m0", ("call", 1, (0, 0), *call[3:]))
        self.bad_term("r0", ("call", 1, (0, 0), (True,), call[4]))
        self.bad_term("f0", ("call", 1, (0, 0), (True,), call[4][1:]))

    def test_the_body_gives_back_another_number(self):
        for keys, bits in (((), ()), ((0,), (True,)), ((0, 0), ()), (("y0",), ())):
            self.fails(BadResults, None, None, ((), keys, bits), 2)
        self.fails(BadResults, None, None, ((), (0,), ()), 0)
        self.fails(BadResults, None, None, ((), (), ("y0",)), 0)
        self.fits(((), (0, "x0"), (False,)), 2)
        self.fails(BadTerm, "term", "k0", ((ruled(registers=("k0",)),), (), ()), 2)

    def test_results_of_the_body_from_left_to_right(self):
        self.fails(BadTerm, "term", "y1", ((), ("x0", "y1"), ("q0",)), 2)
        self.fails(BadTerm, "term", "q0", ((), ("x0", "x1"), ("q0",)), 2)

    def test_bodies_without_items(self):
        self.fits(((), (), ()))
        self.fits(((), ("x1", "x0"), ("p0",)), 2)
        self.fails(BadTerm, "term", "n0", ((), ("n0", 0), ("p0",)), 2)
        self.assertEqual(names_made(LIBRARY, ((), (), ())), ())

    def test_the_other_bodies_are_not_looked_at(self):
        wrong = ((("call", 3, (0,), (), ()),), (0,), ())
        library = ((1, 0), ((contract(), wrong), (contract(), wrong)))
        self.fits(((("call", 1, (), (), ()),), (), ()), 0, library)


class Against(Case):
    def test_bodies_that_fit(self):
        chance = random.Random(101)
        for _ in range(300):
            library = some_library(chance, gaps=0)
            for unit, (_, body) in enumerate(library[1]):
                with self.subTest(library=library, unit=unit):
                    self.fits(body, unit, library)

    def test_bodies_with_changes(self):
        chance = random.Random(1010)
        seen = set()
        for _ in range(700):
            shape = chance.choice(SHAPES)
            units = [(some_contract(chance, shape), None) for _ in range(3)]
            unit = chance.randrange(3)
            body = some_body(chance, shape, units, unit)
            body = longer(chance, with_other_terms(chance, body, 0.1, 2))
            library = (shape, tuple(None if chance.random() < 0.1 else one for one in units))
            fault = slow_fault(library, unit, body)
            seen.add(fault and fault[0])
            with self.subTest(library=library, unit=unit, body=body):
                if fault is None:
                    self.fits(body, unit, library)
                else:
                    self.fails(*fault, body, unit, library)
        self.assertEqual(seen, {None, NoContract, BadCall, BadTerm, BadResults})


def longer(chance, body):
    """The body, which perhaps passes or gives back a key or a bit more."""
    def more(part, one):
        return part + (one,) if chance.random() < 0.05 else part

    items = tuple(
        (*item[:2], more(item[2], 0), more(item[3], True), item[4]) if item[0] == "call" else item
        for item in body[0]
    )
    return (items, more(body[1], 0), more(body[2], True))


def slow_fault(library, unit, body):
    """The first error, the name of its attribute and its value, or None."""
    shape, units = library
    if units[unit] is None:
        return (NoContract, "unit", unit)
    contract = units[unit][0]
    numbers = {**numbers_of(shape, contract[0], (0, 0)), "n": 0, "g": 0}

    def first(told, letters, more=()):
        good = {f"{one}{at}" for one in letters for at in range({**numbers, **dict(more)}[one])}
        bad = [part for part in told if isinstance(part, str) and part not in good]
        return (BadTerm, "term", bad[0]) if bad else None

    def flat(guard):
        return [part for one in guard for part in one[1:]]

    for i, item in enumerate(body[0]):
        if item[0] == "call":
            called = units[item[1]]
            if called is None:
                return (NoContract, "unit", item[1])
            if (len(item[2]), len(item[3])) != called[0][0]:
                return (BadCall, "item", i)
            faults = [first(item[2], "xn"), first(item[3], "pg"), first(flat(item[4]), "xnpg")]
            more = called[0][1]
        else:
            own = {"r": len(item[1]), "f": len(item[2])}
            faults = [first(item[1], "xn"), first(item[2], "pg")]
            for guard, assignments, _ in item[3]:
                faults.append(first(flat(guard), "xnrkpgfm", own))
                for at, (target, source) in enumerate(assignments):
                    faults.append(first([target], "rfkm", own))
                    if target in [one for one, _ in assignments[:at]]:
                        faults.append((BadTerm, "term", target))
                    key = target[0] in KEY_LETTERS
                    faults.append(first([source], "xnrk" if key else "pgfm", own))
            faults.append(first(item[4], "rf", own))
            more = [sum(term[0] == letter for term in item[4]) for letter in "rf"]
        faults = [fault for fault in faults if fault is not None]
        if faults:
            return faults[0]
        numbers["n"] += more[0]
        numbers["g"] += more[1]
    if (len(body[1]), len(body[2])) != contract[1]:
        return (BadResults, None, None)
    return first(body[1], "xn") or first(body[2], "pg")


class NamesMade(unittest.TestCase):
    def test_walks(self):
        items = (MAKER, EMPTY, ("down", (0,), (True,), (), ("f0", "r0")),
                 ("up", (0,), (), (), ("r0", "r0")), ("up", (), (True,), (), ("f0", "f0")))
        wanted = ((("n0",), ("g0",)), ((), ()), (("n1",), ("g1",)), (("n2", "n3"), ()),
                  ((), ("g2", "g3")))
        self.assertEqual(names_made(LIBRARY, (items, (), ())), wanted)

    def test_calls(self):
        call, silent = ("call", 2, (0, 0), (True,), ()), ("call", 0, (), (), ())
        self.assertEqual(names_made(LIBRARY, ((call, silent, MAKER), (), ())),
                         ((("n0", "n1"), ("g0",)), ((), ()), (("n2",), ("g1",))))
        # Calls whose guard never holds make the same names.
        never = call[:4] + ((("<", 0, 0),),)
        self.assertEqual(names_made(LIBRARY, ((MAKER, never), (), ())),
                         ((("n0",), ("g0",)), (("n1", "n2"), ("g1",))))

    def test_random_bodies(self):
        chance = random.Random(103)
        for _ in range(200):
            library = some_library(chance, gaps=0)
            body = library[1][0][1]
            found = names_made(library, body)
            self.assertEqual(len(found), len(body[0]))
            for letter, made in zip("ng", zip(*found)):
                every = [term for one in made for term in one]
                self.assertEqual(every, [f"{letter}{at}" for at in range(len(every))])
            for item, (keys, bits) in zip(body[0], found):
                if item[0] == "call":
                    wanted = library[1][item[1]][0][1]
                else:
                    wanted = tuple(sum(term[0] == one for term in item[4]) for one in "rf")
                self.assertEqual((len(keys), len(bits)), wanted)


if __name__ == "__main__":
    unittest.main()
