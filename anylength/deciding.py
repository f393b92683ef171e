"""Deciding: what is reached with so many rows, and whether a question holds or is broken."""

from anylength.laying import laid_track
from anylength.limits import check_limit
from anylength.questions import width
from anylength.searching import (
    Ways,
    chain_to,
    may_end,
    nothing_wanted,
    search,
    ways_from,
    ways_in,
)
from anylength.tracks import told_run


def levels(question, *, limit=10000):
    """The tuple of the levels that are not empty, each the ascending tuple of its pictures."""
    check_limit(width(question), limit)
    found, _ = search(question, nothing_wanted)
    seen = {}
    told = []
    for level in found.levels:
        fresh = {picture: True for picture, _ in level if picture not in seen}
        seen.update(fresh)
        if len(fresh) > 0:
            told.append(tuple(sorted(fresh)))
    return tuple(told)


def reach(question, picture, *, limit=10000):
    """A track with the fewest rows that ends at a border with this picture, or None."""
    check_limit(width(question), limit)
    found, node = search(question, lambda ways, one, weight: one == picture)
    return None if node is None else track_to(found, node)


def track_to(found, node):
    """A track with the fewest rows to a node that was searched for."""
    return laid_track(found.ways.plan, chain_to(found, node))


def stages(question, rows, *, limit=10000):
    """The stages of the question for so many rows."""
    check_limit(width(question) * rows, limit)
    if rows == 0:
        return ()
    ways = Ways(question)
    told = reached_by([(picture, weight) for weight, picture, _ in ways_in(ways)])
    papers = [as_paper(told)]
    for _ in range(rows - 1):
        told = reached_by([one for picture in told for one in met_behind(ways, picture, told[picture])])
        papers.append(as_paper(told))
    return tuple(papers)


def reached_by(met):
    """The dict from pictures to their weights, None where there are several."""
    told = {}
    for picture, weight in met:
        if told.get(picture, weight) != weight:
            told[picture] = None
        else:
            told[picture] = weight
    return told


def met_behind(ways, picture, total):
    """The list of the pairs of picture and weight behind a picture with a weight or None."""
    return [
        (behind, None if total is None else total + weight)
        for weight, behind, _ in ways_from(ways, picture)
    ]


def as_paper(told):
    """The paper with a row for each picture, by a dict from pictures to weights."""
    return tuple([(*picture, told[picture]) for picture in sorted(told)])


def decide(question, *, limit=10000):
    """The verdict, "holds" or "broken", with the found paper or a told run."""
    check_limit(width(question), limit)
    found, node = search(question, is_bad)
    if node is not None:
        return ("broken", told_run(question, track_to(found, node)))
    weights = found.weights
    told = {one: weights[one][0] if len(weights[one]) == 1 else None for one in weights}
    return ("holds", as_paper(told))


def is_bad(ways, picture, weight):
    """True if a run that ends at the picture with the weight is bad."""
    return weight != 0 and may_end(ways, picture)
