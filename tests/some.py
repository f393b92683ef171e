"""Questions with any aim, guesses and borders, by a random source with a seed."""

from anylength.questions import guessed, layout, width
from tests.making import numbers_of, some_library, terms
from tests.told import POOL, some_alike, some_question


def some_seen(chance, library, unit):
    """An aim ("seen", keys, bits) of the unit."""
    contract = library[1][unit][0]
    numbers = numbers_of(library[0], contract[0], contract[1])
    keys, bits = terms("xywk", numbers)[0], terms("pqum", numbers)[1]
    return ("seen", tuple(chance.sample(keys, min(len(keys), chance.randrange(4)))),
            tuple(chance.sample(bits, min(len(bits), chance.randrange(3)))))


def some_asked(chance, most=None):
    """A question with any aim, of a width up to `most`, if it is told."""
    while True:
        kind = chance.random()
        if kind < 0.15:
            question = (some_alike(chance), chance.randrange(2), ("same", chance.randrange(2)))
        elif kind < 0.3:
            library = some_library(chance, gaps=0)
            unit = chance.randrange(len(library[1]))
            question = (library, unit, some_seen(chance, library, unit))
        else:
            question = some_question(chance, POOL if kind < 0.6 else ())
        if most is None or width(question) <= most:
            return question


def some_keys(chance, names, keys=3):
    return tuple(chance.randrange(keys) for _ in names)


def some_bits(chance, names):
    return tuple(chance.random() < 0.5 for _ in names)


def some_border(chance, question):
    """Any border of the question, also one that no run reaches."""
    keys, bits = layout(question)
    return some_keys(chance, keys), some_bits(chance, bits)


def some_guess(chance, question, entering):
    """Any guess at entering or in a column."""
    keys, bits = guessed(question)[0 if entering else 1]
    return some_keys(chance, keys), some_bits(chance, bits)
