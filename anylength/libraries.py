"""Libraries: whether they are right, who calls whom, and how many units can begin."""

from anylength.bodies import check_body
from anylength.contracts import check_contract
from anylength.units import body_of, calls_of, contract_of


def check_library(library):
    """Returns None if the library is right, otherwise raises an error."""
    shape, units = library
    for unit in range(len(units)):
        if contract_of(library, unit) is not None:
            check_contract(shape, contract_of(library, unit))
    for unit in range(len(units)):
        if body_of(library, unit) is not None:
            check_body(library, unit, body_of(library, unit))


def called_by(library, unit):
    """The list of the units that a unit calls, call by call."""
    return [called for _, called in calls_of(library, unit)]


def callers(library, unit):
    """The ascending tuple of the units that call the unit."""
    units = range(len(library[1]))
    return tuple([other for other in units if unit in called_by(library, other)])


def reaches(library, unit):
    """The ascending tuple of the units that the unit reaches."""
    reached = [unit]
    fresh = [unit]
    while len(fresh) > 0:
        last = fresh.pop()
        for called in called_by(library, last):
            if called not in reached:
                reached.append(called)
                fresh.append(called)
    return tuple(sorted(reached))


def out_of_order(library, unit):
    """The ascending tuple of the pairs of unit and item of all calls out of order."""
    found = []
    for own in reaches(library, unit):
        falls = contract_of(library, own)[4]
        for i, called in calls_of(library, own):
            if called > own or (called == own and falls is None):
                found.append((own, i))
    return tuple(found)


def bound(library, unit, rows):
    """The bound of the unit for so many rows, or None if there is none."""
    gaps = [other for other in reaches(library, unit) if body_of(library, other) is None]
    if len(gaps) > 0 or len(out_of_order(library, unit)) > 0:
        return None
    return bound_in_order(library, unit, rows)


def bound_in_order(library, unit, rows):
    """The bound of a unit that reaches no gap and no call out of order."""
    called = called_by(library, unit)
    others = [other for other in called if other != unit]
    once = 1 + sum([bound_in_order(library, other, rows) for other in others])
    own = len(called) - len(others)
    if own == 0:
        return once
    by = contract_of(library, unit)[4][1]
    power, powers = 1, 1
    for _ in range(rows // by):
        power = power * own
        powers += power
    return once * powers


def with_after(library, unit, clauses):
    """The library in which the unit has these clauses behind those of its after."""
    shape, units = library
    contract, body = units[unit]
    takes, gives, before, after, falls = contract
    changed = ((takes, gives, before, after + clauses, falls), body)
    return (shape, units[:unit] + (changed,) + units[unit + 1:])
