"""Entering: which guesses are allowed ahead of row 0, and where they lead."""

from anylength.aims import before_asked, call_asked, clause_asked
from anylength.clauses import due
from anylength.formulas import holds
from anylength.naming import NOTHING, Naming, asked_view, made_at, other_results, own_results
from anylength.obligations import due_behind
from anylength.plans import cut_both
from anylength.questions import joined
from anylength.times import guard_holds, not_made
from anylength.units import contract_of
from anylength.views import names_view
from anylength.walks import begin, results_in


def entered(plan, keys, bits):
    """The pair of the weight and the border, or None if the guess is not allowed."""
    names, *down = cut_both(keys, bits, plan.entry_sizes)
    naming = Naming(plan, names[0], names[1])
    guesses = {at: state for at, state in zip(plan.downward, down)}
    if not may_enter(naming, guesses):
        return None
    states = [first_state(naming, at, guesses) for at in range(len(plan.parts))]
    return (entry_weight(naming), joined([names, *states]))


def may_enter(naming, guesses):
    """True if the names, and the guessed states of the walks downwards, are allowed."""
    plan = naming.plan
    return (
        before_holds(naming)
        and all([call_allowed(naming, at) for at in plan.calls])
        and asked_holds(naming)
        and all([results_met(naming, at, guesses[at]) for at in plan.downward])
    )


def before_holds(naming):
    """True if the names clauses of before hold."""
    return names_hold(before_asked(naming.plan.question), names_view(naming.givens, NOTHING))


def names_hold(clauses, view):
    """True if those of the clauses that are names clauses hold in the view."""
    for clause in clauses:
        if clause[0] == "names" and not holds(clause[1], view):
            return False
    return True


def call_allowed(naming, at):
    """True if the names that a call makes are allowed."""
    library = naming.plan.question[0]
    call = naming.plan.parts[at][2]
    if naming.calls[at] is None:
        return made_at(naming, at) == not_made(library, call)
    return names_hold(contract_of(library, call[1])[3], naming.views[at])


def asked_holds(naming):
    """True if the call that is asked about is made, and a names clause asked about is broken."""
    question = naming.plan.question
    call, clause = call_asked(question), clause_asked(question)
    if call is not None and not guard_holds(call, naming.own):
        return False
    if clause is None or clause[0] != "names":
        return True
    return not holds(clause[1], asked_view(naming))


def results_met(naming, at, state):
    """True if the results of a walk in the state are the names that it makes."""
    return results_in(naming.plan.parts[at][2], state) == made_at(naming, at)


def first_state(naming, at, guesses):
    """The state of a part ahead of row 0."""
    kind, _, what = naming.plan.parts[at]
    if kind == "walk":
        return guesses[at] if at in guesses else begin(what, naming.views[at])
    if kind == "unlike":
        return ((), (own_results(naming) != other_results(naming),))
    keys, bits = naming.plan.state_sizes[at]
    return ((0,) * keys, (False,) * bits)


def entry_weight(naming):
    """The weight of a run that enters."""
    plan = naming.plan
    if plan.counted is None:
        return 0 if plan.question[2][0] == "seen" else 1
    weight = -due_behind(plan.question, naming.givens, naming.own, naming.value)
    for at in plan.calls:
        if plan.shares[at] is not None and naming.calls[at] is not None:
            given, made = naming.calls[at]
            weight += due(plan.shares[at], given, made, naming.value)
    return weight
