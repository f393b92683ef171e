"""Bodies: whether they fit a unit, and the names that their items make."""

from anylength.errors import BadCall, BadResults, BadTerm, NoContract
from anylength.terms import check_guard, check_sources, check_term, terms_from
from anylength.units import contract_of, is_call, made_by

# The letters of the terms that may be read in a body and in the rules of a walk.
KEY_LETTERS = "xn"
BIT_LETTERS = "pg"
NAME_LETTERS = "xnpg"
RULE_LETTERS = "xnrkpgfm"
TARGET_LETTERS = "rfkm"
RESULT_LETTERS = "rf"


def check_body(library, unit, body):
    """Returns None if the body fits the unit, otherwise raises an error."""
    contract = contract_of(library, unit)
    if contract is None:
        raise NoContract(unit)
    items, keys, bits = body
    numbers = body_numbers(library[0], contract)
    for i in range(len(items)):
        check_item(library, i, items[i], numbers)
        more_keys, more_bits = made_by(library, items[i])
        numbers["n"] += more_keys
        numbers["g"] += more_bits
    if (len(keys), len(bits)) != contract[1]:
        raise BadResults()
    check_sources(keys, KEY_LETTERS, numbers)
    check_sources(bits, BIT_LETTERS, numbers)


def body_numbers(shape, contract):
    """The numbers that digits in a body must be less than, ahead of its first item."""
    (keys, bits), (fields, marks) = contract[0], shape
    return {"x": keys, "p": bits, "n": 0, "g": 0, "k": fields, "m": marks}


def check_item(library, i, item, numbers):
    """Raises an error unless item i of a body fits."""
    if is_call(item):
        check_call(library, i, item, numbers)
    else:
        check_walk(item, numbers)


def check_call(library, i, call, numbers):
    """Raises an error unless the call, item i, fits."""
    _, called, keys, bits, guard = call
    contract = contract_of(library, called)
    if contract is None:
        raise NoContract(called)
    if (len(keys), len(bits)) != contract[0]:
        raise BadCall(i)
    check_sources(keys, KEY_LETTERS, numbers)
    check_sources(bits, BIT_LETTERS, numbers)
    check_guard(guard, NAME_LETTERS, numbers)


def check_walk(walk, numbers):
    """Raises BadTerm unless the walk fits."""
    _, registers, flags, rules, results = walk
    check_sources(registers, KEY_LETTERS, numbers)
    check_sources(flags, BIT_LETTERS, numbers)
    inside = {**numbers, "r": len(registers), "f": len(flags)}
    for rule in rules:
        check_rule(rule, inside)
    check_sources(results, RESULT_LETTERS, inside)


def check_rule(rule, numbers):
    """Raises BadTerm unless the rule fits."""
    guard, assignments, _ = rule
    check_guard(guard, RULE_LETTERS, numbers)
    targets = []
    for target, source in assignments:
        check_term(target, TARGET_LETTERS, numbers)
        if target in targets:
            raise BadTerm(target)
        targets.append(target)
        check_sources((source,), RULE_LETTERS, numbers)


def names_made(library, body):
    """For each item the pair of the tuples of the key names and of the bit names it makes."""
    keys, bits = 0, 0
    found = []
    for item in body[0]:
        more_keys, more_bits = made_by(library, item)
        found.append((terms_from("n", keys, more_keys), terms_from("g", bits, more_bits)))
        keys += more_keys
        bits += more_bits
    return tuple(found)
