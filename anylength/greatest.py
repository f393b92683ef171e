"""Greatest: which candidates stand together, and the greatest part of them that does."""

from anylength.deciding import decide
from anylength.libraries import with_after


def stands(library, unit, clauses, *, limit=10000):
    """None if the clauses stand together, otherwise the first broken one with a told run."""
    broken = broken_ones(library, unit, clauses, limit)
    return broken[0] if len(broken) > 0 else None


def broken_ones(library, unit, clauses, limit):
    """The list of the pairs of the number of a clause that is broken and of a told run."""
    together = with_after(library, unit, clauses)
    broken = []
    for at in range(len(clauses)):
        # All are decided, so that a question behind a broken one may be too wide, too.
        verdict, told = decide((together, unit, ("clause", clauses[at])), limit=limit)
        if verdict == "broken":
            broken.append((at, told))
    return broken


def fallen_in(library, unit, candidates, left, limit):
    """The list of the pairs of the number of a candidate that falls and of a told run."""
    broken = broken_ones(library, unit, tuple([candidates[number] for number in left]), limit)
    return [(left[at], told) for at, told in broken]


def without(left, fallen):
    """The tuple of those that are left when these have fallen."""
    numbers = [number for number, _ in fallen]
    return tuple([number for number in left if number not in numbers])


def rounds(library, unit, candidates, *, limit=10000):
    """Yields for each round the numbers of those that are left and of those that fall in it."""
    left = tuple(range(len(candidates)))
    fallen = None
    while fallen is None or len(fallen) > 0:
        fallen = fallen_in(library, unit, candidates, left, limit)
        yield (left, tuple([number for number, _ in fallen]))
        left = without(left, fallen)


def greatest(library, unit, candidates, *, limit=10000):
    """The numbers of the kept ones, and those that fall with their round and a told run."""
    left = tuple(range(len(candidates)))
    told = []
    number = 0
    fallen = None
    while fallen is None or len(fallen) > 0:
        fallen = fallen_in(library, unit, candidates, left, limit)
        told.extend([(one, number, run) for one, run in fallen])
        left = without(left, fallen)
        number += 1
    return (left, tuple(told))
