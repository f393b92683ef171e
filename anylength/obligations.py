"""Obligations: what has to be true of a body, and the pieces of a sum."""

from anylength.aims import bracket_shares, clause_asked, counted_formula, items_asked
from anylength.clauses import count, due
from anylength.times import by_items, first_time, given_back, passed, told_times
from anylength.units import body_of, calls_of, contract_of


def obligations(library, unit):
    """The tuple of the obligations of the unit, in order."""
    _, _, _, after, falls = contract_of(library, unit)
    found = []
    for i, called in calls_of(library, unit):
        before = contract_of(library, called)[2]
        found.extend([("call", i, c) for c in range(len(before))])
        if called == unit and falls is not None:
            found.append(("falls", i))
    found.extend([("after", c) for c in range(len(after))])
    return tuple(found)


def pieces(question, told):
    """The tuple of the pieces of the items of the question, and what is due."""
    givens, table, answers, value = told
    items = items_asked(question)
    each = by_items(items, answers)
    times = told_times(question[0], items, first_time(givens, table), each)
    found = [
        piece(question, items[i], times[i : i + 2], each[i], value) for i in range(len(items))
    ]
    return (tuple(found), due_behind(question, givens, times[-1][0], value))


def piece(question, item, times, answer, value):
    """The piece of an item, by the times ahead of it and behind it."""
    (names, ahead), (_, behind) = times
    shares = bracket_shares(question, item)
    if answer is None or shares is None:
        # A call that is not made leaves the table, so its piece is 0 here, too.
        formula = counted_formula(question)
        return count(formula, value, behind) - count(formula, value, ahead)
    return due(shares, passed(item, names), answer[:2], value)


def due_behind(question, givens, names, value):
    """What is due, by the names that are made at the end."""
    library, unit, aim = question
    if aim[0] == "falls":
        return -contract_of(library, unit)[4][1]
    results = given_back(body_of(library, unit), names)
    return due(clause_asked(question)[3], givens, results, value)
