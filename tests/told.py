"""Questions with told runs, by a random source with a seed."""

from tests.making import (
    AFTER,
    BEFORE,
    SHAPES,
    numbers_of,
    some_body,
    some_change,
    some_clause,
    some_contract,
    some_easy_clause,
    some_library,
    some_pair,
)
from tests.slow import guard, named, slow_go, slow_items, slow_obligations, slow_play, slow_sum
from tests.support import some_table

# Formulas that are counted in several units of a library, so that calls are bracketed.
POOL = (((("is", "m0", True),),), ((("=", "k0", "v0"),),), ((),))


def some_aim(chance, library, unit):
    """An aim of the unit, but none of [220] and [240]."""
    contract = library[1][unit][0]
    found = slow_obligations(library, unit)
    if found and chance.random() < 0.6:
        return chance.choice(found)
    numbers = numbers_of(library[0], contract[0], contract[1])
    if chance.random() < 0.4:
        return ("clause", some_change(chance, numbers))
    return ("clause", some_clause(chance, AFTER, numbers))


def some_told(chance, question, rows, wrong=0.1):
    """A told run with so many rows; some of its answers are wrong."""
    library, unit, _ = question
    shape, units = library
    givens = some_pair(chance, units[unit][0][0])
    table = found = some_table(chance, shape, rows)
    ns, gs, answers = [], [], []
    for item in slow_items(question):
        told = named("xpng", (*givens, ns, gs))
        if item[0] != "call":
            keys, bits, table = slow_go(item, (*givens, tuple(ns), tuple(gs)), table)[:3]
        else:
            gives = units[item[1]][0][1]
            keys, bits = (0,) * gives[0], (False,) * gives[1]
            if guard(told, item[4]) != (chance.random() < wrong):
                keys, bits = some_pair(chance, gives)
                if chance.random() < 0.5:
                    more = chance.randrange(2) if chance.random() < wrong else 0
                    table = some_table(chance, shape, rows + more)
                answers.append((keys, bits, table))
            else:
                answers.append(None)
        ns += keys
        gs += bits
    value = chance.randrange(5) if slow_sum(question) and slow_sum(question)[1] else 0
    return (givens, found, tuple(answers), value)


def some_question(chance, formulas=()):
    """A question of a unit with a body, but with none of the aims of [220] and [240]."""
    library = some_library(chance, (1, 1) if formulas else None, gaps=0, formulas=formulas)
    unit = chance.randrange(len(library[1]))
    return (library, unit, some_aim(chance, library, unit))


def runs_from_before(chance, many, formulas):
    """So many pairs of a sum and a run from before of it."""
    found = 0
    while found < many:
        question = some_question(chance, formulas)
        if slow_sum(question) is None:
            continue
        told = some_told(chance, question, chance.randrange(4), 0)
        if slow_play(question, told)[0] in ("broken", "kept"):
            found += 1
            yield question, told


def some_alike(chance):
    """A library of two units that take and give the same numbers, with bodies without calls."""
    shape = chance.choice(SHAPES)
    takes, gives, *told = some_contract(chance, shape)
    gives = gives if chance.random() < 0.4 else (0, 0)
    before = (some_easy_clause(chance, BEFORE, numbers_of(shape, takes, gives)),)
    one, other = (takes, gives, told[0], (), None), (takes, gives, before, (), None)
    units = [(one, None), (other, None)]
    return (shape, tuple((units[unit][0], some_body(chance, shape, units, unit, calls=0))
                         for unit in (0, 1)))
