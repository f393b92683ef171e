"""Orders that share keys: their amalgams, and chains that are laid."""

from anylength.orders import ranks, with_one_more


def amalgams(first, second, shared):
    """The tuple of all amalgams of two orders that share these pairs, ascending."""
    place = {j: i for i, j in shared}
    if not stands_like(first, place, second):
        return ()
    found = [first]
    behind = len(first)
    for j in range(len(second)):
        if j not in place:
            place[j] = behind
            behind += 1
            found = [
                longer
                for shorter in found
                for longer in with_one_more(shorter)
                if stands_like(longer, place, second)
            ]
    return tuple(sorted(found))


def stands_like(keys, place, order):
    """True if the keys at the places, by numbers of keys of the order, stand like these."""
    placed = tuple([keys[place[j]] for j in place])
    return ranks(placed) == ranks(tuple([order[j] for j in place]))


def chained(chain, shared):
    """A tuple of tuples of keys that lays the chain, or None if it cannot be laid."""
    laid = [chain[0]]
    for at in range(1, len(chain)):
        order, pairs = chain[at], shared[at - 1]
        if not stands_like(chain[at - 1], {j: i for i, j in pairs}, order):
            return None
        # Spread by more than the order has keys, what is laid has room for all of them
        # between any two of its keys, and its orders stay the same.
        spread = len(order) + 1
        laid = [tuple([key * spread for key in keys]) for keys in laid]
        laid.append(laid_behind(laid[-1], order, pairs))
    return tuple(laid)


def laid_behind(former, order, pairs):
    """Keys that stand like the order and share the pairs with the keys ahead of them."""
    fixed = {order[j]: former[i] for i, j in pairs}
    keys = [0]
    for rank in range(1, max([0, *order]) + 1):
        keys.append(fixed.get(rank, keys[-1] + 1))
    return tuple([keys[rank] for rank in order])
