"""Naming: the names and the value of a run of a question, and what its parts read of them."""

from anylength.aims import call_asked
from anylength.parts import ASIDE
from anylength.plans import cut
from anylength.times import given_back, guard_holds, passed
from anylength.units import body_of
from anylength.views import names_view

NOTHING = ((), ())


class Naming:
    """The names and the value, which stay the same over all rows.

    `own` are the names as the unit calls them, `others` as the other one does
    with the aim "same". `calls` tells of each part that is a call that is made
    what is passed and what it makes, and is None for all others; `views` tells
    what each part reads, None for a call that is not made.
    """

    def __init__(self, plan, keys, bits):
        xs, ns, values = cut(keys, plan.name_sizes[0])
        ps, gs = cut(bits, plan.name_sizes[1])
        own_keys, own_bits = plan.own_names
        self.plan = plan
        self.givens = (xs, ps)
        self.value = values[0] if len(values) > 0 else 0
        self.own = (xs, ps, ns, gs)
        self.others = (xs, ps, ns[own_keys:], gs[own_bits:])
        self.calls = [told_of_call(self, at) for at in range(len(plan.parts))]
        self.views = [view_of_part(self, at) for at in range(len(plan.parts))]


def names_for(naming, at):
    """The names as the unit calls them that the part belongs to."""
    return naming.others if ASIDE in naming.plan.parts[:at] else naming.own


def made_at(naming, at):
    """The pair of the keys and the bits of the names that an item's part makes."""
    (key, bit), (key_end, bit_end) = naming.plan.names_at[at]
    _, _, ns, gs = naming.own
    return (ns[key:key_end], gs[bit:bit_end])


def told_of_call(naming, at):
    """The pair of what is passed and what is made, None unless it is a call that is made."""
    kind, _, call = naming.plan.parts[at]
    if kind != "call" or not guard_holds(call, naming.own):
        return None
    return (passed(call, naming.own), made_at(naming, at))


def view_of_part(naming, at):
    """What a part reads of the names: of a walk the names, otherwise a view, or None."""
    kind = naming.plan.parts[at][0]
    if kind == "walk":
        return names_for(naming, at)
    if kind == "keep":
        return names_view(naming.givens, NOTHING)
    if kind == "call":
        told = naming.calls[at]
        return None if told is None else names_view(told[0], told[1])
    return asked_view(naming) if kind == "break" else ()


def asked_view(naming):
    """The view in which the clause of the question is read."""
    question = naming.plan.question
    call = call_asked(question)
    if call is not None:
        return names_view(passed(call, naming.own), NOTHING)
    return names_view(naming.givens, own_results(naming))


def own_results(naming):
    """What the body of the unit gives back."""
    library, unit, _ = naming.plan.question
    return given_back(body_of(library, unit), naming.own)


def other_results(naming):
    """What the body of the other unit gives back, with the aim "same"."""
    library, _, aim = naming.plan.question
    return given_back(body_of(library, aim[1]), naming.others)
