"""Laying: the track of a chain of steps, with keys that are an order."""

from anylength.crossing import crossed
from anylength.entering import entered
from anylength.guesses import spread_stand


class Ladder:
    """Rungs, one for each different key, with room for further ones between any two.

    `above` tells the next rung above each one. The rung 0 stands for the key 0.
    """

    def __init__(self):
        self.above = {0: None}


def rung_above(ladder, lower):
    """A new rung, directly above a rung."""
    fresh = len(ladder.above)
    ladder.above[fresh] = ladder.above[lower]
    ladder.above[lower] = fresh
    return fresh


def heights(ladder):
    """The dict from the rungs to the numbers of rungs below them."""
    found = {}
    rung = 0
    while rung is not None:
        found[rung] = len(found)
        rung = ladder.above[rung]
    return found


def laid_track(plan, chain):
    """The track of a chain of steps; all its keys, taken together, are an order."""
    ladder = Ladder()
    guesses = []
    rungs = ()
    for before, (keys, bits) in chain:
        if before is None:
            place = with_rungs(ladder, {0: 0}, keys)
            border = entered(plan, keys, bits)[1]
        else:
            stand = spread_stand(plan, before[0])
            known = {key: rung for key, rung in zip(stand.border[0], rungs)}
            place = with_rungs(ladder, {0: 0, **known}, keys)
            border = crossed(stand, keys, bits)[1]
        rungs = tuple([place[key] for key in border[0]])
        guesses.append((tuple([place[key] for key in keys]), bits))
    height = heights(ladder)
    return tuple([(tuple([height[rung] for rung in some]), bits) for some, bits in guesses])


def with_rungs(ladder, place, keys):
    """The dict from keys to rungs, with rungs for further keys among the known ones."""
    found = {key: place[key] for key in place}
    for key in sorted(set(keys)):
        if key not in found:
            lower = max([known for known in found if known < key])
            found[key] = rung_above(ladder, found[lower])
    return found
