"""Watches: clauses that are kept or broken, row by row."""

from anylength.formulas import holds, needs
from anylength.views import first_row_view, names_view, second_row_view

# The words for the first bits, by the kind of the clause and whether it is to be broken.
FIRST_BITS = {
    ("each", False): (),
    ("next", False): ("begun",),
    ("some", False): ("seen",),
    ("each", True): ("hit",),
    ("some", True): (),
    ("next", True): ("hit", "begun"),
    ("pairs", True): ("hit", "held"),
}


def watch_layout(clause, broken):
    """The needed key terms, and the words for the first bits with the needed bit terms."""
    keys, bits = kept_terms(clause)
    return (keys, first_words(clause, broken) + bits)


def watched(clause, broken, givens, results, found, now, *, row=None):
    """The tuple of the states of the watch, up to the first row that it refuses."""
    names = names_view(givens, results)
    state = at_beginning(clause, broken)
    states = []
    for at in range(len(now)):
        states.append(state)
        state = watch_step(clause, broken, names, state, (found[at], now[at]), at == row)
        if state is None:
            return tuple(states)
    return (*states, state)


def right_at_end(clause, broken, state):
    """True if the state of the watch is right at the end, otherwise False."""
    words = first_words(clause, broken)
    if "hit" in words or "seen" in words:
        # Where one of these words stands, it is the first one.
        return state[1][0]
    return True


def first_words(clause, broken):
    """The words for the first bits of the watch."""
    return FIRST_BITS[(clause[0], broken)]


def kept_terms(clause):
    """The pair of the tuples of the terms of keys and of bits that a kept row is kept by."""
    if clause[0] in ("next", "pairs"):
        return needs(clause[1])
    return ((), ())


def at_beginning(clause, broken):
    """The state of the watch ahead of the first row, and when it lets go."""
    keys, bits = watch_layout(clause, broken)
    return ((0,) * len(keys), (False,) * len(bits))


def watch_step(clause, broken, names, state, rows, picked):
    """The state of the watch behind a row, or None if it refuses the row.

    The view of the givens and the results is told, and the pair of the row as
    it was found and as it is now.
    """
    if clause[0] == "pairs":
        return pairs_step(clause, names, state, rows, picked)
    if clause[0] == "next":
        return next_step(clause, broken, names, state, rows)
    met = holds(clause[1], names + first_row_view(rows[0], rows[1]))
    if clause[0] == "each":
        return each_step(broken, state, met)
    return some_step(broken, state, met)


def each_step(broken, state, met):
    """The state behind a row of which the formula holds, if met, or does not."""
    if broken:
        return ((), (state[1][0] or not met,))
    return state if met else None


def some_step(broken, state, met):
    """The state behind a row of which the formula holds, if met, or does not."""
    if broken:
        return None if met else state
    return ((), (state[1][0] or met,))


def next_step(clause, broken, names, state, rows):
    """The state behind a row of a watch of neighbours, or None."""
    if broken and state[1][0]:
        return state
    begun = state[1][1 if broken else 0]
    if begun and not holds_behind_kept(clause, broken, names, state, rows):
        return hit_state(clause) if broken else None
    return keeping_state(clause, (False, True) if broken else (True,), rows)


def pairs_step(clause, names, state, rows, picked):
    """The state behind a row of a watch to break pairs, or None."""
    hit, held = state[1][:2]
    if picked:
        return None if hit or held else keeping_state(clause, (False, True), rows)
    if held and not holds_behind_kept(clause, True, names, state, rows):
        return hit_state(clause)
    return state


def holds_behind_kept(clause, broken, names, state, rows):
    """True if the formula holds of the kept row and the present one."""
    keys, bits = kept_terms(clause)
    kept_bits = state[1][len(first_words(clause, broken)):]
    kept = tuple(zip(keys, state[0])) + tuple(zip(bits, kept_bits))
    return holds(clause[1], names + kept + second_row_view(rows[0], rows[1]))


def keeping_state(clause, first, rows):
    """The state with these first bits that keeps the row."""
    told = {term: value for term, value in first_row_view(rows[0], rows[1])}
    keys, bits = kept_terms(clause)
    return (tuple([told[term] for term in keys]), first + tuple([told[term] for term in bits]))


def hit_state(clause):
    """The state of a watch to break next or pairs that has let go with hit True."""
    keys, bits = at_beginning(clause, True)
    return (keys, (True,) + bits[1:])
