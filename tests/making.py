"""Walks, contracts, bodies and libraries that fit, by a random source with a seed."""

from tests.support import some_formula, some_literal

# The letters of the terms that may stand in a clause of before and of after: [64].
BEFORE = {"names": "xp", "each": "xkpm", "some": "xkpm", "next": "xkKpmM"}
AFTER = {
    "names": "xypq",
    "each": "xykwpqmu",
    "some": "xykwpqmu",
    "next": "xykwKWpqmuMU",
    "pairs": "xykwKWpqmuMU",
}
KEY_LETTERS = "xynrkwKWv"
SHAPES = ((0, 1), (1, 0), (1, 1), (2, 0), (0, 2), (2, 2), (1, 2), (2, 1))


def terms(letters, numbers):
    """The lists of the key terms and of the bit terms with these letters."""
    every = [f"{letter}{at}" for letter in letters for at in range(numbers.get(letter, 0))]
    keys = [term for term in every if term[0] in KEY_LETTERS]
    return keys, [term for term in every if term[0] not in KEY_LETTERS]


def numbers_of(shape, takes, gives, more=()):
    """The numbers of the terms, by their letters."""
    told = dict(zip("xpyq", (*takes, *gives)))
    told.update({letter: shape[0] for letter in "kwKW"})
    told.update({letter: shape[1] for letter in "muMU"})
    told.update(more)
    return told


def some_key_source(chance, letters, numbers):
    return chance.choice([0, *terms(letters, numbers)[0]])


def some_bit_source(chance, letters, numbers):
    return chance.choice([True, False, *terms(letters, numbers)[1]])


def some_guard(chance, letters, numbers, most=2):
    keys, bits = terms(letters, numbers)
    if not keys and not bits:
        return ()
    return tuple(some_literal(chance, keys, bits) for _ in range(chance.randrange(most + 1)))


def some_rule(chance, numbers):
    keys, bits = terms("rfkm", numbers)
    targets = chance.sample(keys + bits, min(len(keys + bits), chance.randrange(4)))
    assignments = tuple(
        (target, some_key_source(chance, "xnrk", numbers) if target[0] in "rk"
         else some_bit_source(chance, "pgfm", numbers))
        for target in targets
    )
    return (some_guard(chance, "xnrkpgfm", numbers), assignments, chance.random() < 0.5)


def some_walk(chance, numbers):
    """A walk; the numbers tell of x, p, n, g, k and m terms."""
    registers = tuple(some_key_source(chance, "xn", numbers) for _ in range(chance.randrange(3)))
    flags = tuple(some_bit_source(chance, "pg", numbers) for _ in range(chance.randrange(3)))
    inside = {**numbers, "r": len(registers), "f": len(flags)}
    rules = tuple(some_rule(chance, inside) for _ in range(chance.randrange(5)))
    keys, bits = terms("rf", inside)
    many = chance.randrange(3) if keys + bits else 0
    results = tuple(chance.choice(keys + bits) for _ in range(many))
    return (chance.choice(("up", "down")), registers, flags, rules, results)


def some_clause(chance, letters_by_kind, numbers):
    kind = chance.choice(sorted(letters_by_kind))
    keys, bits = terms(letters_by_kind[kind], numbers)
    formula = some_formula(chance, keys, bits) if keys + bits else chance.choice(((), ((),)))
    return (kind, formula)


def some_easy_clause(chance, letters_by_kind, numbers):
    """A clause that is kept more often."""
    kind, formula = some_clause(chance, letters_by_kind, numbers)
    return (kind, formula if chance.random() < 0.2 else formula + ((),))


def some_change(chance, numbers, formulas=()):
    many = chance.randrange(2)
    told = {**numbers, "v": many}
    keys, bits = terms("kvm", told)
    formula = chance.choice(formulas) if formulas else some_formula(chance, keys, bits)
    if any("v0" in literal for case in formula for literal in case):
        many, told = 1, {**numbers, "v": 1}
    keys, bits = terms("xyvpq", told)
    shares = tuple(
        (chance.randrange(-3, 4),
         some_formula(chance, keys, bits) if keys + bits else chance.choice(((), ((),))))
        for _ in range(chance.randrange(3))
    )
    return ("change", formula, many, shares)


def some_contract(chance, shape, formulas=()):
    """A contract that fits the shape; change clauses have one of the formulas, if any."""
    takes, gives = ((chance.randrange(3), chance.randrange(2)) for _ in "ab")
    numbers = numbers_of(shape, takes, gives)
    before = tuple(some_easy_clause(chance, BEFORE, numbers) for _ in range(chance.randrange(3)))
    after = tuple(
        some_change(chance, numbers, formulas) if chance.random() < 0.4
        else some_easy_clause(chance, AFTER, numbers)
        for _ in range(chance.randrange(4))
    )
    keys, bits = terms("km", numbers)
    rows = chance.choice(formulas) if formulas else some_formula(chance, keys, bits)
    by = chance.randrange(1, 4)
    if any("v0" in literal for case in rows for literal in case):
        rows = ()
    return (takes, gives, before, after, None if chance.random() < 0.3 else (rows, by))


def some_call(chance, called, contract, numbers, made=None):
    """A call of a unit with this contract; its guard holds always, if made."""
    takes = contract[0]
    keys = tuple(some_key_source(chance, "xn", numbers) for _ in range(takes[0]))
    bits = tuple(some_bit_source(chance, "pg", numbers) for _ in range(takes[1]))
    guard = () if made else some_guard(chance, "xnpg", numbers)
    return ("call", called, keys, bits, guard)


def some_body(chance, shape, units, unit, calls=2, only_below=False):
    """A body that fits a unit; `units` are the pairs of contract and anything, or None."""
    contract = units[unit][0]
    numbers = {**numbers_of(shape, contract[0], (0, 0)), "n": 0, "g": 0}
    items = []
    callable_units = [at for at, one in enumerate(units) if one is not None]
    if only_below:
        callable_units = [at for at in callable_units if at < unit]
    for _ in range(chance.randrange(4)):
        many_calls = sum(item[0] == "call" for item in items)
        if many_calls < calls and callable_units and chance.random() < 0.5:
            called = chance.choice(callable_units)
            item = some_call(chance, called, units[called][0], numbers, chance.random() < 0.5)
            more = units[called][0][1]
        else:
            item = some_walk(chance, numbers)
            more = [sum(term[0] == letter for term in item[4]) for letter in "rf"]
        if numbers["n"] + more[0] <= 3 and numbers["g"] + more[1] <= 3:
            items.append(item)
            numbers["n"] += more[0]
            numbers["g"] += more[1]
    keys = tuple(some_key_source(chance, "xn", numbers) for _ in range(contract[1][0]))
    bits = tuple(some_bit_source(chance, "pg", numbers) for _ in range(contract[1][1]))
    return (tuple(items), keys, bits)


def some_library(chance, shape=None, many=None, gaps=0.2, calls=2, only_below=False, formulas=()):
    """A right library of up to 4 units, all with contracts."""
    shape = shape or chance.choice(SHAPES)
    many = many or chance.randrange(1, 5)
    units = [(some_contract(chance, shape, formulas), None) for _ in range(many)]
    full = tuple(
        (contract, None if chance.random() < gaps
         else some_body(chance, shape, units, unit, calls, only_below))
        for unit, (contract, _) in enumerate(units)
    )
    return (shape, full)


def some_row(chance, shape, keys=4):
    fields, marks = shape
    return (*(chance.randrange(keys) for _ in range(fields)),
            *(chance.random() < 0.5 for _ in range(marks)))


def some_pair(chance, numbers, keys=4):
    """Givens or results: so many keys and so many bits."""
    return (tuple(chance.randrange(keys) for _ in range(numbers[0])),
            tuple(chance.random() < 0.5 for _ in range(numbers[1])))


def with_other_terms(chance, told, share, digits):
    """What was told, with this share of its terms replaced by others of their kind."""
    if isinstance(told, tuple):
        return tuple(with_other_terms(chance, part, share, digits) for part in told)
    if isinstance(told, str) and len(told) == 2 and told[1].isdigit() and chance.random() < share:
        letters = "xynrkwKWv" if told[0] in KEY_LETTERS else "pqgfmuMU"
        return chance.choice(letters) + str(chance.randrange(digits))
    return told
