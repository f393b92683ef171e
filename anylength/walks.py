"""Walks: how they begin, what a visit does, and what they make of a table."""

from anylength.formulas import all_hold, is_key_term, values_of
from anylength.views import fields_of, lettered, row_view


def begin(walk, names):
    """The state with which the walk begins."""
    told = dict(lettered("xpng", names))
    return (values_of(walk[1], told), values_of(walk[2], told))


def visit(walk, names, state, row):
    """The pair of the state and the row that a visit leaves."""
    _, left, rewritten = visited(walk, names, state, row)
    return (left, rewritten)


def fired(walk, names, state, row):
    """The tuple of the numbers of the rules that are carried out in this visit."""
    return visited(walk, names, state, row)[0]


def visited(walk, names, state, row):
    """The numbers of the rules that a visit carries out, and the state and the row it leaves."""
    rules = walk[3]
    told = dict(lettered("xpng", names) + lettered("rf", state) + row_view("k", "m", row))
    numbers = []
    for number in range(len(rules)):
        guard, assignments, on = rules[number]
        if all_hold(guard, told):
            numbers.append(number)
            assign(assignments, told)
            if not on:
                break
    left = (read("r", len(state[0]), told), read("f", len(state[1]), told))
    fields = len(fields_of(row))
    return (tuple(numbers), left, read("k", fields, told) + read("m", len(row) - fields, told))


def assign(assignments, told):
    """Sets all targets in the dict to what their sources stand for there."""
    # All sources are read before any target is set, so that two values can be exchanged.
    values = values_of([source for _, source in assignments], told)
    for at in range(len(assignments)):
        told[assignments[at][0]] = values[at]


def read(letter, many, told):
    """The tuple of what the first terms of a letter stand for, so many of them."""
    return tuple([told[f"{letter}{at}"] for at in range(many)])


def states_between(walk, names, table):
    """The tuple of the states between the rows."""
    left = [state for _, _, state, _ in walked(walk, names, table)]
    states = (begin(walk, names), *left)
    return states if walk[0] == "up" else states[::-1]


def go(walk, names, table):
    """The keys and the bits that the walk makes, and the table that it leaves."""
    state = begin(walk, names)
    rows = list(table)
    for number, _, left, row in walked(walk, names, table):
        state = left
        rows[number] = row
    keys, bits = results_in(walk, state)
    return (keys, bits, tuple(rows))


def results_in(walk, state):
    """The pair of the tuples of the keys and of the bits that are the results in a state."""
    told = dict(lettered("rf", state))
    keys = [told[term] for term in walk[4] if is_key_term(term)]
    bits = [told[term] for term in walk[4] if not is_key_term(term)]
    return (tuple(keys), tuple(bits))


def goes(walk, names, found, states, now):
    """True if these are the states between the rows, and the table that the walk leaves."""
    return states == states_between(walk, names, found) and now == go(walk, names, found)[2]


def visits(walk, names, table):
    """Yields for each visit the row's number, the rules carried out, and the state it leaves."""
    for number, rules, state, _ in walked(walk, names, table):
        yield (number, rules, state)


def walked(walk, names, table):
    """The list of all visits in their order.

    Of each one there are the row's number, the numbers of the rules that are
    carried out, the state and the row that it leaves.
    """
    numbers = list(range(len(table)))
    if walk[0] == "down":
        numbers = numbers[::-1]
    state = begin(walk, names)
    found = []
    for number in numbers:
        rules, state, row = visited(walk, names, state, table[number])
        found.append((number, rules, state, row))
    return found
