"""Strongest: what can occur behind a body, and the strongest clause that says so."""

from anylength.crossing import Stand
from anylength.deciding import track_to
from anylength.limits import check_limit
from anylength.naming import own_results
from anylength.orders import ranks
from anylength.parts import row_terms
from anylength.questions import width
from anylength.searching import may_end, nothing_wanted, search
from anylength.tracks import told_run
from anylength.views import names_view


def strongest(library, unit, keys, bits, *, limit=10000):
    """The tuple of the cases that occur, ascending."""
    question = (library, unit, ("seen", keys, bits))
    check_limit(width(question), limit)
    found, _ = search(question, nothing_wanted)
    ways = found.ways
    ends = [picture for picture in found.weights if may_end(ways, picture)]
    return tuple(sorted(set([case_at(ways.plan, picture) for picture in ends])))


def shown(library, unit, keys, bits, case, *, limit=10000):
    """The pair of a told run in which the case occurs and of the number of a row, or None."""
    question = (library, unit, ("seen", keys, bits))
    check_limit(width(question), limit)
    found, node = search(question, lambda ways, one, _: occurs_at(ways, one, case))
    if node is None:
        return None
    track = track_to(found, node)
    # The last bit that is guessed in a column tells whether the row is picked.
    picked = [at for at in range(len(track) - 1) if found.ways.plan.picks and track[at + 1][1][-1]]
    return (told_run(question, track), picked[0] if len(picked) > 0 else None)


def occurs_at(ways, picture, case):
    """True if the picture is complete, and the case can be read off at it."""
    return may_end(ways, picture) and case_at(ways.plan, picture) == case


def case_at(plan, picture):
    """The case that can be read off at a picture that is complete."""
    stand = Stand(plan, picture)
    _, keys, bits = plan.question[2]
    told = dict(names_view(stand.naming.givens, own_results(stand.naming)))
    if plan.picks:
        held_keys, held_bits = stand.states[-1]
        told.update(dict(zip(row_terms(keys), held_keys)))
        told.update(dict(zip(row_terms(bits), held_bits[1:])))
    return (ranks(tuple([told[term] for term in keys])), tuple([told[term] for term in bits]))


def promise(library, unit, keys, bits, *, limit=10000):
    """The promise of the terms, a clause that holds in exactly the cases that occur."""
    cases = strongest(library, unit, keys, bits, limit=limit)
    kind = "each" if len(row_terms(keys + bits)) > 0 else "names"
    return (kind, tuple([literals_of(keys, bits, case) for case in cases]))


def literals_of(keys, bits, case):
    """The tuple of literals over the terms that hold in exactly this case."""
    order, truths = case
    sources = [(0, 0)] + list(zip(keys, order))
    found = []
    for at in range(len(sources)):
        for other in range(at + 1, len(sources)):
            found.append(literal_of(sources[at], sources[other]))
    found.extend([("is", term, truth) for term, truth in zip(bits, truths)])
    return tuple(found)


def literal_of(first, second):
    """The literal that says how two sources stand, by the pairs of a source and its rank."""
    (a, rank), (b, other_rank) = first, second
    if rank == other_rank:
        return ("=", a, b)
    return ("<", a, b) if rank < other_rank else ("<", b, a)
