"""Guesses: all that can be guessed at entering and in a column, how many, and where they lead.

A picture is followed with its keys spread, so that there is room for the guessed
keys below, between and above them, and with all guesses the same keys stay.
"""

from anylength.crossing import Stand, crossed
from anylength.entering import entered
from anylength.logic import all_bits
from anylength.orders import count_extensions, count_orders, ranks
from anylength.plans import total_size


def picture_of(border):
    """The picture of a border."""
    keys, bits = border
    return (ranks(keys), bits)


def entry_guesses(plan):
    """The number of guesses at entering."""
    keys, bits = total_size(plan.entry_sizes)
    return count_orders(keys) << bits


def column_guesses(plan, order):
    """The number of guesses in a column from a border whose keys have this order."""
    keys, bits = total_size(plan.column_sizes)
    return count_extensions(order, keys) << bits


def spread_stand(plan, picture):
    """The picture with its keys spread, as a stand for the guesses of a column."""
    order, bits = picture
    many = total_size(plan.column_sizes)[0]
    return Stand(plan, (tuple([rank << many for rank in order]), bits))


def all_guesses(known, size):
    """The list of all guesses of a size, as pairs of keys and bits, beside known spread keys."""
    many, more = size
    # Each key leaves half of the room behind a known one, down to 1 for the last one.
    found = [()]
    for at in range(many):
        room = 1 << (many - 1 - at)
        found = [keys + (key,) for keys in found for key in keys_beside(known + keys, room)]
    chosen = all_bits(more)
    return [(keys, bits) for keys in found for bits in chosen]


def keys_beside(known, room):
    """The list of one key for each way in which a key can stand to the known ones."""
    return [key for low in sorted(set([0, *known])) for key in (low, low + room)]


def all_entries(plan):
    """The list of the triples of the keys, the bits, and what the allowed guess leads to."""
    found = []
    for keys, bits in all_guesses((), total_size(plan.entry_sizes)):
        met = entered(plan, keys, bits)
        if met is not None:
            found.append((keys, bits, met))
    return found


def all_columns(plan, picture):
    """The list of the same triples for the columns from a picture, beside its spread keys."""
    stand = spread_stand(plan, picture)
    found = []
    for keys, bits in all_guesses(stand.border[0], total_size(plan.column_sizes)):
        met = crossed(stand, keys, bits)
        if met is not None:
            found.append((keys, bits, met))
    return found


def entry_rows(plan):
    """The tuple of the entries, ascending."""
    met = [behind for _, _, behind in all_entries(plan)]
    return tuple(sorted(set([(*picture_of(border), weight) for weight, border in met])))
