"""Runs: what a unit does with givens and a table, and runs whose calls are answered."""

from anylength.errors import NoBody, TooLong
from anylength.times import (
    by_items,
    carried_out,
    first_time,
    given_back,
    guard_holds,
    passed,
    time_or_fault,
)
from anylength.units import body_of, is_call


def run(library, unit, givens, table, *, most=20):
    """The pair of the results and the table that a run of the unit leaves."""
    results, left, _ = run_behind(library, unit, givens, table, [], most)
    return (results, left)


def traced(library, unit, givens, table, *, most=20):
    """The results, the table, and one answer for each call of the unit's own body."""
    return run_behind(library, unit, givens, table, [], most)


def run_behind(library, unit, givens, table, begun, most):
    """What traced returns, of a run behind the units that have begun already.

    The list of these is made longer by the units that begin here.
    """
    body = body_of(library, unit)
    if body is None:
        raise NoBody(unit)
    if len(begun) >= most:
        raise TooLong(most)
    begun.append(unit)
    time = first_time(givens, table)
    answers = []
    for item in body[0]:
        answer = None
        if is_call(item):
            answer = answer_behind(library, item, time, begun, most)
            answers.append(answer)
        time = carried_out(library, item, time, answer)
    names, left = time
    return (given_back(body, names), left, tuple(answers))


def answer_behind(library, call, time, begun, most):
    """The answer of the called unit, or None if the call is not made."""
    names, table = time
    if not guard_holds(call, names):
        return None
    results, left, _ = run_behind(library, call[1], passed(call, names), table, begun, most)
    return (results[0], results[1], left)


def answered(library, unit, givens, table, answers):
    """What comes out of an answered run of the body, or the first answer that may not be."""
    body = body_of(library, unit)
    each = by_items(body[0], answers)
    time, fault = time_or_fault(library, body[0], first_time(givens, table), each)
    if fault is not None:
        return fault
    names, left = time
    return ("ended", given_back(body, names), left)
