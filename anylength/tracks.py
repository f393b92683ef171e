"""Tracks: the guesses of a told run, the borders they lead to, and the told run of guesses."""

from anylength.aims import items_asked, many_values
from anylength.crossing import Stand, crossed
from anylength.entering import entered
from anylength.naming import Naming, made_at
from anylength.parts import picks
from anylength.plans import Plan, cut_both
from anylength.questions import joined
from anylength.times import by_items, carried_out, first_time, guard_holds
from anylength.units import is_call, items_of
from anylength.views import fields_of
from anylength.walks import states_between


def path(question, told, *, row=None):
    """The track of a told run, in which a row is picked or none, or None."""
    steps = told_steps(question, told)
    if steps is None:
        return None
    givens, table, _, value = told
    names = [givens, *[made_in(step) for step in steps], ((value,) * many_values(question), ())]
    tables = [table, *[behind[1] for item, _, behind in steps if is_call(item)]]
    down = [(item, ahead) for item, ahead, _ in steps if item[0] == "down"]
    states = [states_between(walk, ahead[0], ahead[1]) for walk, ahead in down]
    guesses = [joined([*names, *[between[0] for between in states]])]
    for at in range(len(table)):
        rows = [row_guess(one[at]) for one in tables]
        picked = ((), (at == row,) if picks(question) else ())
        guesses.append(joined([*rows, *[between[at + 1] for between in states], picked]))
    return tuple(guesses)


def told_steps(question, told):
    """The list of the triples of an item and the times ahead of it and behind it, or None."""
    library, unit, aim = question
    givens, table, answers, _ = told
    begun = first_time(givens, table)
    if aim[0] != "same":
        return steps_of(library, items_asked(question), begun, answers)
    # Bodies without calls have no answers that might be wrong.
    own = steps_of(library, items_of(library, unit), begun, ())
    return own + steps_of(library, items_of(library, aim[1]), begun, ())


def steps_of(library, items, begun, answers):
    """The same for items one behind another, None if an answer cannot be followed."""
    each = by_items(items, answers)
    time = begun
    steps = []
    for i in range(len(items)):
        if is_call(items[i]) and not can_follow(items[i], time, each[i]):
            return None
        behind = carried_out(library, items[i], time, each[i])
        steps.append((items[i], time, behind))
        time = behind
    return steps


def can_follow(call, time, answer):
    """True if an answer is there exactly if the call is made, with as many rows as are there."""
    names, table = time
    if answer is None:
        return not guard_holds(call, names)
    return guard_holds(call, names) and len(answer[2]) == len(table)


def made_in(step):
    """The pair of the keys and the bits of the names that the item of a step makes."""
    _, ((_, _, ns, gs), _), ((_, _, more_ns, more_gs), _) = step
    return (more_ns[len(ns):], more_gs[len(gs):])


def row_guess(row):
    """The pair of the fields and the marks of a row."""
    fields = fields_of(row)
    return (fields, row[len(fields):])


def follow(question, track):
    """The tuple of the borders to which a track comes, each with the weight up to there."""
    plan = Plan(question)
    met = entered(plan, track[0][0], track[0][1])
    found = []
    total = 0
    for at in range(len(track)):
        if met is None:
            break
        weight, border = met
        total += weight
        found.append((*border, total))
        if at + 1 < len(track):
            keys, bits = track[at + 1]
            met = crossed(Stand(plan, border), keys, bits)
    return tuple(found)


def told_run(question, track):
    """The told run of a track whose guesses are all allowed."""
    plan = Plan(question)
    names = cut_both(track[0][0], track[0][1], plan.entry_sizes)[0]
    naming = Naming(plan, names[0], names[1])
    # The rows of found come first in a column, and then the ghosts of the calls.
    lines = [cut_both(keys, bits, plan.column_sizes) for keys, bits in track[1:]]
    tables = [
        tuple([line[at][0] + line[at][1] for line in lines]) for at in range(len(plan.calls) + 1)
    ]
    answers = [
        None if naming.calls[at] is None else (*made_at(naming, at), ghosts)
        for at, ghosts in zip(plan.calls, tables[1:])
    ]
    return (naming.givens, tables[0], tuple(answers), naming.value)
