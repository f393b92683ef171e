"""Clauses: whether they are kept, and where they fail."""

from anylength.formulas import holds
from anylength.views import fields_of, first_row_view, names_view, row_view, second_row_view


def keeps(clause, givens, results, found, now):
    """True if the clause is kept, otherwise False."""
    return failure(clause, givens, results, found, now) is None


def verdicts(clause, givens, results, found, now):
    """The tuple of the truths whether the beginnings of the tables keep the clause."""
    lengths = range(len(now) + 1)
    return tuple([keeps(clause, givens, results, found[:rows], now[:rows]) for rows in lengths])


def failure(clause, givens, results, found, now):
    """None if the clause is kept, otherwise the place at which it fails."""
    if clause[0] == "change":
        return change_failure(clause, givens, results, found, now)
    kind, formula = clause
    names = names_view(givens, results)
    if kind == "names":
        return None if holds(formula, names) else ("names",)
    if kind == "each":
        return each_failure(formula, names, found, now)
    if kind == "some":
        return some_failure(formula, names, found, now)
    return rows_failure(clause, names, found, now)


def each_failure(formula, names, found, now):
    """The place at which an each clause fails, or None."""
    for i in range(len(now)):
        if not holds(formula, names + first_row_view(found[i], now[i])):
            return ("row", i)
    return None


def some_failure(formula, names, found, now):
    """The place at which a some clause fails, or None."""
    for i in range(len(now)):
        if holds(formula, names + first_row_view(found[i], now[i])):
            return None
    return ("none",)


def rows_failure(clause, names, found, now):
    """The place at which a next or pairs clause fails, or None."""
    kind, formula = clause
    for j in range(1, len(now)):
        view = names + second_row_view(found[j], now[j])
        for i in range(j - 1 if kind == "next" else 0, j):
            if not holds(formula, view + first_row_view(found[i], now[i])):
                return ("rows", i, j)
    return None


def change_failure(clause, givens, results, found, now):
    """A place at which a change clause fails, or None."""
    _, formula, many, shares = clause
    values = (0,)
    if many > 0:
        rows = [fields_of(row) for row in found + now]
        values = telling_values([key for keys in (givens[0], results[0], *rows) for key in keys])
    for value in values:
        difference = count(formula, value, now) - count(formula, value, found)
        wanted = due(shares, givens, results, value)
        if difference != wanted:
            return ("value", value, difference, wanted)
    return None


def telling_values(keys):
    """Values that stand to 0 and the keys in all ways in which a key can stand to them."""
    # Behind each of these numbers comes the next one, or a gap that begins directly behind it.
    known = [0, *keys]
    return tuple(sorted(set(known + [key + 1 for key in known])))


def count(formula, value, table):
    """The number of rows of which the formula holds, with the value as v0."""
    told = (("v0", value),)
    return len([row for row in table if holds(formula, told + row_view("k", "m", row))])


def due(shares, givens, results, value):
    """The sum of the shares of a change clause."""
    view = names_view(givens, results) + (("v0", value),)
    return sum([number for number, formula in shares if holds(formula, view)])
