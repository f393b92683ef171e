"""What several tests need: asking with checks, and slow but plain searches."""

from itertools import product

KEY_LETTERS = "xynrkwKWv"


def is_plain(value):
    """True if the value is a tuple, an integer, a string, True, False or None, throughout."""
    if type(value) is tuple:
        return all(is_plain(part) for part in value)
    return value is None or type(value) in (int, str, bool)


def asked(function):
    """The function, but asked twice, with a look at its arguments and at its answer."""

    def ask(*args, **named):
        before = repr((args, named))
        answer = function(*args, **named)
        assert is_plain(answer), f"not a plain value: {answer!r}"
        again = function(*args, **named)
        # By repr, since True and 1 are equal.
        assert repr(again) == repr(answer), f"{answer!r}, and then {again!r}"
        assert repr((args, named)) == before, "the arguments were changed"
        return answer

    return ask


def slow_ranks(keys):
    """The ranks, by the words of the document."""
    return tuple(len({other for other in (0, *keys) if other < key}) for key in keys)


def slow_orders(many):
    """All orders of so many keys, by a search through all tuples of small keys."""
    every = product(range(many + 1), repeat=many)
    return tuple(keys for keys in every if slow_ranks(keys) == keys)


def slow_alike(first, second):
    """Whether two tuples stand alike, by the places and pairs of places [21]."""
    if len(first) != len(second):
        return False
    if any((a == 0) != (b == 0) for a, b in zip(first, second)):
        return False
    places = range(len(first))
    return all((first[i] < first[j]) == (second[i] < second[j]) for i in places for j in places)


def slow_holds(formula, told):
    """Whether a formula holds, by a dict of its terms."""

    def value(source):
        return told[source] if isinstance(source, str) else source

    def literal(op, a, b):
        return {
            "<": lambda: value(a) < value(b),
            "<=": lambda: value(a) <= value(b),
            "=": lambda: value(a) == value(b),
            "!=": lambda: value(a) != value(b),
            "is": lambda: told[a] is b,
        }[op]()

    return any(all(literal(*one) for one in case) for case in formula)


def slow_terms(formula):
    """The set of the terms in a formula."""
    literals = [one for case in formula for one in case]
    return {part for one in literals for part in one[1:] if isinstance(part, str)}


def slow_views(terms):
    """All dicts that tell the terms, with keys for every order of the key terms."""
    terms = sorted(terms)
    many = sum(term[0] in KEY_LETTERS for term in terms)
    choices = [range(many + 1) if term[0] in KEY_LETTERS else (False, True) for term in terms]
    for values in product(*choices):
        yield dict(zip(terms, values))


def some_literal(chance, keys, bits):
    """A literal over these terms, by a random source with a seed."""
    if bits and (not keys or chance.random() < 0.4):
        return ("is", chance.choice(bits), chance.random() < 0.5)
    sources = (0, *keys)
    return (chance.choice(("<", "<=", "=", "!=")), chance.choice(sources), chance.choice(sources))


def some_formula(chance, keys, bits):
    """A formula over these terms, by a random source with a seed."""
    sizes = [chance.randrange(4) for _ in range(chance.randrange(4))]
    return tuple(tuple(some_literal(chance, keys, bits) for _ in range(size)) for size in sizes)


def some_table(chance, shape, rows, keys=4):
    """A table of a shape, by a random source with a seed."""
    fields, marks = shape
    return tuple(
        tuple(chance.randrange(keys) for _ in range(fields))
        + tuple(chance.random() < 0.5 for _ in range(marks))
        for _ in range(rows)
    )


def keys_of(told):
    """All keys of a told run, one behind another; True and False are no keys."""
    if isinstance(told, tuple):
        return tuple(key for part in told for key in keys_of(part))
    return () if told is None or isinstance(told, bool) else (told,)
