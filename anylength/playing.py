"""Playing: what a told run of a question does."""

from anylength.aims import before_asked, call_asked, clause_asked, is_sum, items_asked
from anylength.clauses import failure
from anylength.contracts import first_broken
from anylength.obligations import pieces
from anylength.times import (
    by_items,
    first_time,
    given_back,
    guard_holds,
    passed,
    time_or_fault,
)
from anylength.units import body_of

NOTHING = ((), ())


def play(question, told):
    """What a told run does, as the first of the answers that applies."""
    library, _, aim = question
    givens, table, answers, _ = told
    number = first_broken(before_asked(question), givens, NOTHING, table, table)
    if number is not None:
        return ("before", number)
    if aim[0] == "same":
        return verdict(unlike_at(question, givens, table))
    items = items_asked(question)
    each = by_items(items, answers)
    time, fault = time_or_fault(library, items, first_time(givens, table), each)
    if fault is not None:
        return fault
    call = call_asked(question)
    if call is not None and not guard_holds(call, time[0]):
        return ("guard", aim[1])
    return verdict(broken_at(question, told, time))


def verdict(place):
    """The answer for the place at which a run from before breaks the question, or None."""
    return ("kept",) if place is None else ("broken", place)


def broken_at(question, told, time):
    """The place at which a run from before that ends so breaks the question, or None."""
    library, unit, _ = question
    if is_sum(question):
        return sum_broken_at(question, told)
    names, left = time
    clause, call = clause_asked(question), call_asked(question)
    if call is not None:
        return failure(clause, passed(call, names), NOTHING, left, left)
    results = given_back(body_of(library, unit), names)
    return failure(clause, told[0], results, told[1], left)


def sum_broken_at(question, told):
    """The place at which a run from before breaks a sum, or None."""
    found, wanted = pieces(question, told)
    total = sum(found)
    return None if total == wanted else ("sum", total, wanted)


def unlike_at(question, givens, table):
    """The place at which the two bodies do not do the same, or None."""
    library, unit, aim = question
    results, left = left_by(library, unit, givens, table)
    other_results, other_left = left_by(library, aim[1], givens, table)
    if results != other_results:
        return ("results",)
    for i in range(len(table)):
        if left[i] != other_left[i]:
            return ("row", i)
    return None


def left_by(library, unit, givens, table):
    """The results and the table that a body without calls leaves."""
    body = body_of(library, unit)
    each = by_items(body[0], ())
    (names, left), _ = time_or_fault(library, body[0], first_time(givens, table), each)
    return (given_back(body, names), left)
