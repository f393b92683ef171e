"""Columns: how a run of a question enters, goes over one row, and where it may end."""

from anylength.crossing import Stand, crossed, is_complete
from anylength.entering import entered
from anylength.guesses import (
    all_columns,
    column_guesses,
    entry_guesses,
    entry_rows,
    picture_of,
    spread_stand,
)
from anylength.limits import check_limit
from anylength.orders import ranks
from anylength.plans import Plan


def enter(question, keys, bits):
    """The pair of the weight and the border at entering, or None if the guess is not allowed."""
    return entered(Plan(question), keys, bits)


def cross(question, border, keys, bits):
    """The pair of the weight and the border behind a column, or None if it is not allowed."""
    return crossed(Stand(Plan(question), border), keys, bits)


def complete(question, border):
    """True if the border is complete, otherwise False."""
    return is_complete(Stand(Plan(question), border))


def entries(question, *, limit=10000):
    """The tuple of the entries, ascending."""
    plan = Plan(question)
    check_limit(entry_guesses(plan), limit)
    return entry_rows(plan)


def columns(question, border, *, limit=10000):
    """The ascending tuple of order, bits, weight and picture of each allowed column."""
    plan = Plan(question)
    picture = picture_of(border)
    check_limit(column_guesses(plan, picture[0]), limit)
    known = spread_stand(plan, picture).border[0]
    return tuple(sorted([
        (ranks(known + keys), bits, weight, picture_of(behind))
        for keys, bits, (weight, behind) in all_columns(plan, picture)
    ]))
