"""Parts: what of a question is followed from row to row, and what its states hold.

A part is a triple of its kind, its place, which begins the names of its states
in the layout, and what it works by: ("keep", ("before", c), clause), ("walk",
("item", i), walk), ("call", ("item", i), call), ("break", ("goal",), clause),
("hold", ("goal",), (keys, bits)), ("unlike", ("goal",), None) or ASIDE.
"""

from anylength.aims import before_asked, clause_asked, items_asked
from anylength.terms import terms_from
from anylength.units import contract_of, is_call, items_of
from anylength.watches import watch_layout

# With the aim "same", what lays now aside between the items of the two units.
ASIDE = ("aside", ("aside",), None)


def parts(question):
    """The tuple of the parts of the question, in their order."""
    watches = [("keep", ("before", c), one) for c, one in watched_clauses(before_asked(question))]
    items = item_parts(question)
    if question[2][0] == "same":
        items.insert(len(items_of(question[0], question[1])), ASIDE)
    return (*watches, *items, *goal_parts(question))


def watched_clauses(clauses):
    """The list of the pairs of number and clause, for those that a watch can keep."""
    numbers = range(len(clauses))
    return [(c, clauses[c]) for c in numbers if clauses[c][0] in ("each", "next", "some")]


def item_parts(question):
    """The list of the parts that are walks and calls."""
    items = items_asked(question)
    numbers = range(len(items))
    return [("call" if is_call(items[i]) else "walk", ("item", i), items[i]) for i in numbers]


def goal_parts(question):
    """The list of the goal, if there is one."""
    aim = question[2]
    if aim[0] == "same":
        return [("unlike", ("goal",), None)]
    if aim[0] == "seen":
        keys, bits = row_terms(aim[1]), row_terms(aim[2])
        return [("hold", ("goal",), (keys, bits))] if len(keys + bits) > 0 else []
    clause = clause_asked(question)
    if clause is not None and clause[0] in ("each", "some", "next", "pairs"):
        return [("break", ("goal",), clause)]
    return []


def row_terms(terms):
    """The tuple of those terms that speak of a row, in their order."""
    return tuple([term for term in terms if term[0] in "wkum"])


def picks(question):
    """True if the question picks, otherwise False."""
    for kind, _, what in goal_parts(question):
        if kind == "hold" or (kind == "break" and what[0] == "pairs"):
            return True
    return False


def state_layout(library, part):
    """The names of the keys and of the bits of the state of a part, in order."""
    kind, place, what = part
    if kind != "call":
        keys, bits = state_words(kind, what)
        return (placed(place, keys), placed(place, bits))
    keys, bits = (), ()
    for c, clause in watched_clauses(contract_of(library, what[1])[3]):
        more_keys, more_bits = watch_layout(clause, False)
        keys += placed((*place, c), more_keys)
        bits += placed((*place, c), more_bits)
    return (keys, bits)


def state_words(kind, what):
    """The words for the keys and the bits of the state of a part that is no call."""
    if kind == "walk":
        return (terms_from("r", 0, len(what[1])), terms_from("f", 0, len(what[2])))
    if kind == "hold":
        return (what[0], ("held", *what[1]))
    if kind == "unlike":
        return ((), ("hit",))
    if kind == "aside":
        return ((), ())
    return watch_layout(what, kind == "break")


def placed(place, words):
    """The tuple of the names that begin with a place and end with one of the words."""
    return tuple([(*place, word) for word in words])
