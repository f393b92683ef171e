"""Units: their contracts and bodies, the calls in these, and how many names items make."""

from anylength.formulas import is_key_term


def contract_of(library, unit):
    """The contract of a unit, or None if it has none."""
    units = library[1]
    # A unit beyond the last one is one without a contract.
    if unit >= len(units) or units[unit] is None:
        return None
    return units[unit][0]


def body_of(library, unit):
    """The body of a unit, or None if it has none."""
    if contract_of(library, unit) is None:
        return None
    return library[1][unit][1]


def items_of(library, unit):
    """The items of the body of a unit; there are none in a gap."""
    body = body_of(library, unit)
    return () if body is None else body[0]


def is_call(item):
    """True if the item is a call, False if it is a walk."""
    return item[0] == "call"


def calls_of(library, unit):
    """The list of the pairs of item and called unit, for the calls in the body of a unit."""
    items = items_of(library, unit)
    return [(i, items[i][1]) for i in range(len(items)) if is_call(items[i])]


def made_by(library, item):
    """The pair of the numbers of key names and of bit names that an item makes."""
    if is_call(item):
        return contract_of(library, item[1])[1]
    keys = len([term for term in item[4] if is_key_term(term)])
    return (keys, len(item[4]) - keys)
