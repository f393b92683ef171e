"""Searching: what is reached from where, row by row, until something wanted is met.

A node is a pair of a picture and the weight of a run that reaches it. A step
tells how a node is first met: the node before, or None at entering, and the
guess, a pair of keys and bits, beside the spread keys of the picture before.
"""

from anylength.crossing import Stand, is_complete
from anylength.guesses import all_columns, all_entries, picture_of
from anylength.plans import Plan

# Two runs of other weights to one picture are enough: not both can come to the weight 0.
MOST_WEIGHTS = 2


class Ways:
    """Where a question leads to: at entering, and from each picture, worked out once."""

    def __init__(self, question):
        self.plan = Plan(question)
        self.behind = {}
        self.right = {}


def ways_in(ways):
    """The list of the triples of the weight, the picture and the guess at entering."""
    return different_ways(all_entries(ways.plan))


def ways_from(ways, picture):
    """The list of the triples of the weight, the picture and the guess of the columns."""
    if picture not in ways.behind:
        ways.behind[picture] = different_ways(all_columns(ways.plan, picture))
    return ways.behind[picture]


def different_ways(met):
    """The ways of guesses, with one guess for each weight and picture."""
    found = {}
    for keys, bits, (weight, border) in met:
        found.setdefault((weight, picture_of(border)), (keys, bits))
    return [(weight, picture, guess) for (weight, picture), guess in found.items()]


def may_end(ways, picture):
    """True if the picture is complete."""
    if picture not in ways.right:
        ways.right[picture] = is_complete(Stand(ways.plan, picture))
    return ways.right[picture]


class Search:
    """The nodes that were met, by the numbers of rows with which they are reached first."""

    def __init__(self, question):
        self.ways = Ways(question)
        self.steps = {}
        self.weights = {}
        self.levels = []


def search(question, wanted):
    """The pair of a search and of the first wanted node, None if there is none.

    No other node is reached with fewer rows and wanted. `wanted` is a function
    of the ways, a picture and a weight.
    """
    found = Search(question)
    ways = found.ways
    fresh = [(None, way) for way in ways_in(ways)]
    while len(fresh) > 0:
        level = []
        for before, (weight, picture, guess) in fresh:
            node = (picture, weight)
            if is_further(found, node):
                found.steps[node] = (before, guess)
                level.append(node)
                if wanted(ways, picture, weight):
                    return (found, node)
        found.levels.append(level)
        fresh = [step for node in level for step in steps_from(ways, node)]
    return (found, None)


def is_further(found, node):
    """True if the node is to be followed; it is counted among the weights of its picture."""
    picture, weight = node
    weights = found.weights.setdefault(picture, [])
    if weight in weights or len(weights) == MOST_WEIGHTS:
        return False
    weights.append(weight)
    return True


def steps_from(ways, node):
    """The list of the pairs of the node and a way behind it, with the weight there."""
    picture, total = node
    return [
        (node, (total + weight, behind, guess))
        for weight, behind, guess in ways_from(ways, picture)
    ]


def nothing_wanted(ways, picture, weight):
    """False, for a search that goes on to all that is reached."""
    return False


def chain_to(found, node):
    """The list of the steps to a node, the one at entering first."""
    steps = []
    while node is not None:
        steps.append(found.steps[node])
        node = found.steps[node][0]
    return steps[::-1]
