"""Keys and orders: ranks, tuples that stand alike, orders and their extensions."""


def ranks(keys):
    """The ranks of a tuple of keys: for each one, how many different numbers are less."""
    # 0 is among the numbers even where no key is 0, so the ranks of greater keys begin at 1.
    ladder = sorted(set([0, *keys]))
    rank = {ladder[at]: at for at in range(len(ladder))}
    return tuple([rank[key] for key in keys])


def alike(first, second):
    """True if the two tuples of keys stand alike, otherwise False."""
    return ranks(first) == ranks(second)


def count_orders(many):
    """The number of orders of so many keys."""
    return count_extensions((), many)


def orders(many):
    """The tuple of all orders of so many keys, ascending."""
    return extensions((), many)


def count_extensions(order, many):
    """The number of orders that extend the order by so many keys."""
    # How many ways there are to go on hangs on the number of different keys above 0 alone.
    counts = {len(set([0, *order])) - 1: 1}
    for _ in range(many):
        counts = counts_with_one_more(counts)
    return sum(counts.values())


def counts_with_one_more(counts):
    """From how many orders have so many different keys above 0: the same with one key more."""
    further = {}
    for different, ways in counts.items():
        taken = ways * (different + 1)
        further[different] = further.get(different, 0) + taken
        further[different + 1] = further.get(different + 1, 0) + taken
    return further


def extensions(order, many):
    """The tuple of all orders that extend the order by so many keys, ascending."""
    found = [order]
    for _ in range(many):
        found = [longer for shorter in found for longer in with_one_more(shorter)]
    return tuple(sorted(found))


def with_one_more(order):
    """The list of the orders that extend the order by one key."""
    highest = max([0, *order])
    old = [order + (key,) for key in range(highest + 1)]
    new = [with_room_at(order, key) + (key,) for key in range(1, highest + 2)]
    return old + new


def with_room_at(order, free):
    """The order with the keys from `free` on moved up by one, so that `free` occurs no more."""
    return tuple([key + 1 if key >= free else key for key in order])
