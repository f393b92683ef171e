"""Times: how the items of a body are carried out one after another, calls by told answers.

A time is the pair of the names that are made so far and the table as it is.
"""

from anylength.contracts import answer_fault
from anylength.formulas import all_hold, values_of
from anylength.units import contract_of, is_call, made_by
from anylength.views import lettered
from anylength.walks import go


def first_time(givens, table):
    """The time ahead of the first item."""
    return ((givens[0], givens[1], (), ()), table)


def guard_holds(call, names):
    """True if the guard of the call holds."""
    return all_hold(call[4], dict(lettered("xpng", names)))


def passed(call, names):
    """The givens that the call passes."""
    return read_pair(call[2], call[3], names)


def given_back(body, names):
    """The results that the body gives back."""
    return read_pair(body[1], body[2], names)


def read_pair(keys, bits, names):
    """The pair of the keys and the bits of sources that are read in the names."""
    told = dict(lettered("xpng", names))
    return (values_of(keys, told), values_of(bits, told))


def carried_out(library, item, time, answer):
    """The time behind an item; a call is made if its answer is not None."""
    (xs, ps, ns, gs), table = time
    if not is_call(item):
        keys, bits, left = go(item, time[0], table)
    elif answer is None:
        keys, bits = not_made(library, item)
        left = table
    else:
        keys, bits, left = answer
    return ((xs, ps, ns + keys, gs + bits), left)


def not_made(library, call):
    """The keys and the bits that a call makes that is not made."""
    keys, bits = made_by(library, call)
    return ((0,) * keys, (False,) * bits)


def by_items(items, answers):
    """The tuple with the answer of each call at the place of its item, and None at walks."""
    found = []
    left = list(answers)
    for item in items:
        found.append(left.pop(0) if is_call(item) else None)
    return tuple(found)


def told_times(library, items, begun, answers):
    """The times ahead of each item and behind the last one, by an answer for each that is right."""
    times = [begun]
    for i in range(len(items)):
        times.append(carried_out(library, items[i], times[i], answers[i]))
    return tuple(times)


def time_or_fault(library, items, begun, answers):
    """The pair of the time behind the last item and None, if all answers are as they must be.

    Otherwise the pair of None and ("answer", i, fault) for the first item whose answer is not.
    """
    time = begun
    for i in range(len(items)):
        fault = item_fault(library, items[i], time, answers[i])
        if fault is not None:
            return (None, ("answer", i, fault))
        time = carried_out(library, items[i], time, answers[i])
    return (time, None)


def item_fault(library, item, time, answer):
    """What is wrong with the answer of an item, or None."""
    if not is_call(item):
        return None
    names, table = time
    if guard_holds(item, names) == (answer is None):
        return ("made",)
    if answer is None:
        return None
    return answer_fault(contract_of(library, item[1]), passed(item, names), table, answer)
