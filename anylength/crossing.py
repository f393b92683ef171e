"""Crossing: how the parts take their turns at a row, and what is right behind the last one."""

from anylength.clauses import count
from anylength.entering import results_met
from anylength.naming import Naming
from anylength.plans import cut_both
from anylength.questions import joined
from anylength.views import first_row_view
from anylength.walks import begin, visit
from anylength.watches import right_at_end, watch_step


class Stand:
    """A border, cut into the names and the states of the parts, and what these read there."""

    def __init__(self, plan, border):
        names, *states = cut_both(border[0], border[1], plan.border_sizes)
        self.plan = plan
        self.border = border
        self.names = names
        self.states = states
        self.naming = Naming(plan, names[0], names[1])


class Line:
    """One row while the parts take their turns."""

    def __init__(self, found, picked):
        self.found = found
        self.now = found
        self.aside = found
        self.picked = picked


def crossed(stand, keys, bits):
    """The pair of the weight of the column and the border behind, or None if not allowed."""
    plan = stand.plan
    line, guesses = line_guessed(plan, keys, bits)
    states = []
    weight = 0
    for at in range(len(plan.parts)):
        ahead = line.now
        state = turn(stand, at, line, guesses.get(at))
        if state is None:
            return None
        states.append(state)
        weight += turn_weight(stand, at, ahead, line.now)
    return (weight, joined([stand.names, *states]))


def line_guessed(plan, keys, bits):
    """The line, and the dict of what is guessed for the calls and the walks downwards."""
    found, *told, picked = cut_both(keys, bits, plan.column_sizes)
    guesses = {at: guess for at, guess in zip([*plan.calls, *plan.downward], told)}
    return (Line(found[0] + found[1], picked[1] == (True,)), guesses)


def turn(stand, at, line, guess):
    """The state of a part behind the row, which it may rewrite, or None if it refuses."""
    kind, _, what = stand.plan.parts[at]
    view, state = stand.naming.views[at], stand.states[at]
    if kind == "walk":
        return walk_turn(what, view, state, line, guess)
    if kind == "call":
        return call_turn(stand.plan.watches[at], view, state, line, guess)
    if kind == "keep":
        return watch_step(what, False, view, state, (line.found, line.found), False)
    if kind == "break":
        # A clause of before of a called unit reads no row as it was found, so found will do there, too.
        return watch_step(what, True, view, state, (line.found, line.now), line.picked)
    if kind == "hold":
        return hold_turn(what, state, line)
    if kind == "unlike":
        return ((), (state[1][0] or line.now != line.aside,))
    return aside_turn(line)


def walk_turn(walk, names, state, line, guess):
    """The turn of a walk; the guess, of a walk downwards, is its state behind the row."""
    begun = state if guess is None else guess
    left, line.now = visit(walk, names, begun, line.now)
    if guess is None:
        return left
    return guess if left == state else None


def call_turn(watches, view, state, line, guess):
    """The turn of a call; the guess is its ghost."""
    ghost = guess[0] + guess[1]
    if view is None:
        return state if ghost == line.now else None
    states = []
    for clause, told in watch_states(watches, state):
        behind = watch_step(clause, False, view, told, (line.now, ghost), False)
        if behind is None:
            return None
        states.append(behind)
    line.now = ghost
    return joined(states)


def watch_states(watches, state):
    """The list of the pairs of the clause and the state of the watches of a call."""
    told = cut_both(state[0], state[1], [size for _, size in watches])
    return [(watches[at][0], told[at]) for at in range(len(watches))]


def hold_turn(terms, state, line):
    """The turn of the goal that holds what the terms read of the picked row."""
    if not line.picked:
        return state
    if state[1][0]:
        return None
    told = {term: value for term, value in first_row_view(line.found, line.now)}
    keys, bits = terms
    return (tuple([told[term] for term in keys]), (True, *[told[term] for term in bits]))


def aside_turn(line):
    """Lays now aside, and lets found take its place."""
    line.aside = line.now
    line.now = line.found
    return ((), ())


def turn_weight(stand, at, ahead, now):
    """The weight of the turn of a part, by what it finds and what it leaves as now."""
    plan = stand.plan
    if plan.counted is None or plan.shares[at] is not None or ahead == now:
        return 0
    value = stand.naming.value
    return count(plan.counted, value, (now,)) - count(plan.counted, value, (ahead,))


def is_complete(stand):
    """True if the border is complete."""
    return all([right_part(stand, at) for at in range(len(stand.plan.parts))])


def right_part(stand, at):
    """True if a part is behind the last row in a state in which it may end."""
    kind, _, what = stand.plan.parts[at]
    view, state = stand.naming.views[at], stand.states[at]
    if kind == "walk":
        if at in stand.plan.downward:
            return state == begin(what, view)
        return results_met(stand.naming, at, state)
    if kind == "call":
        return view is None or call_right(stand.plan.watches[at], state)
    if kind in ("keep", "break"):
        return right_at_end(what, kind == "break", state)
    # The first bit of a goal that holds is held, of one that looks for what is unlike it is hit.
    return kind == "aside" or state[1][0]


def call_right(watches, state):
    """True if all watches of a call that is made are right at the end."""
    told = watch_states(watches, state)
    return all([right_at_end(clause, False, one) for clause, one in told])
