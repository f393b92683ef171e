"""Walks, runs and told runs by the words of the document, slowly and apart from the program."""

from anylength.clauses import count, due, failure, keeps
from tests.support import slow_holds


def named(letters, parts):
    """The dict of terms with these letters, one for each of the tuples."""
    return {f"{letter}{at}": value
            for letter, part in zip(letters, parts) for at, value in enumerate(part)}


def split(row):
    """The fields and the marks of a row."""
    return ([one for one in row if not isinstance(one, bool)],
            [one for one in row if isinstance(one, bool)])


def source(told, one):
    return told[one] if isinstance(one, str) else one


def guard(told, literals):
    return slow_holds((literals,), told)


def slow_begin(walk, names):
    told = named("xpng", names)
    return (tuple(source(told, one) for one in walk[1]), tuple(source(told, one) for one in walk[2]))


def slow_visit(walk, names, state, row):
    """The numbers of the rules carried out, the state and the row: [83]."""
    told = {**named("xpng", names), **named("rf", state), **named("km", split(row))}
    carried_out = []
    for number, (literals, assignments, on) in enumerate(walk[3]):
        if not guard(told, literals):
            continue
        carried_out.append(number)
        told = {**told, **{target: source(told, one) for target, one in assignments}}
        if not on:
            break
    keys, bits = split(row)
    left = (*(told[f"k{at}"] for at in range(len(keys))), *(told[f"m{at}"] for at in range(len(bits))))
    state = (tuple(told[f"r{at}"] for at in range(len(walk[1]))),
             tuple(told[f"f{at}"] for at in range(len(walk[2]))))
    return tuple(carried_out), state, left


def slow_go(walk, names, table):
    """The keys and bits made, the table, the states between the rows, and the visits: [84], [85]."""
    rows, visits = list(table), []
    numbers = range(len(rows)) if walk[0] == "up" else range(len(rows) - 1, -1, -1)
    state = slow_begin(walk, names)
    between = {0 if walk[0] == "up" else len(rows): state}
    for at in numbers:
        rules, state, rows[at] = slow_visit(walk, names, state, rows[at])
        between[at + 1 if walk[0] == "up" else at] = state
        visits.append((at, rules, state))
    told = named("rf", state)
    keys = tuple(told[term] for term in walk[4] if term[0] == "r")
    bits = tuple(told[term] for term in walk[4] if term[0] == "f")
    states = tuple(between[at] for at in range(len(rows) + 1))
    return keys, bits, tuple(rows), states, tuple(visits)


class Ended(Exception):
    """A run that ends with an error: its word and its number."""


def slow_run(library, unit, givens, table, most):
    """The results, the table, the answers to the own calls, and the units that begin: [120], [121]."""
    begun = []

    def begin(unit, givens, table):
        contract, body = library[1][unit]
        if body is None:
            raise Ended("NoBody", unit)
        if len(begun) == most:
            raise Ended("TooLong", most)
        begun.append(unit)
        ns, gs, answers = [], [], []
        for item in body[0]:
            told = named("xpng", (*givens, ns, gs))
            if item[0] != "call":
                keys, bits, table = slow_go(item, (*givens, tuple(ns), tuple(gs)), table)[:3]
            elif guard(told, item[4]):
                passed = tuple(tuple(source(told, one) for one in part) for part in item[2:4])
                (keys, bits), table, _ = begin(item[1], passed, table)
                answers.append((keys, bits, table))
            else:
                gives = library[1][item[1]][0][1]
                keys, bits = (0,) * gives[0], (False,) * gives[1]
                answers.append(None)
            ns += keys
            gs += bits
        told = named("xpng", (*givens, ns, gs))
        results = tuple(tuple(source(told, one) for one in part) for part in body[1:])
        return results, table, tuple(answers)

    return (*begin(unit, givens, table), tuple(begun))


def slow_fault(contract, givens, found, answer):
    """The fault of an answer that is not None, or None: [122]."""
    keys, bits, now = answer
    if len(now) != len(found):
        return ("rows",)
    for c, clause in enumerate(contract[3]):
        if clause[0] not in ("pairs", "change"):
            if not keeps(clause, givens, (keys, bits), found, now):
                return ("clause", c)
    return None


def slow_told(library, items, givens, table, answers):
    """What is wrong with the first answer that is wrong, or None; the steps; the dict of names.

    A step is the triple of the table ahead of an item, the table behind it, and,
    for a call that is made, of what is passed and what comes back.
    """
    answers, ns, gs, steps = list(answers), [], [], []
    for i, item in enumerate(items):
        told, ahead, call = named("xpng", (*givens, ns, gs)), table, None
        if item[0] != "call":
            keys, bits, table = slow_go(item, (*givens, tuple(ns), tuple(gs)), table)[:3]
        else:
            contract, answer = library[1][item[1]][0], answers.pop(0)
            if (answer is not None) != guard(told, item[4]):
                return ("answer", i, ("made",)), steps, None, None
            if answer is None:
                keys, bits = (0,) * contract[1][0], (False,) * contract[1][1]
            else:
                passed = tuple(tuple(source(told, one) for one in part) for part in item[2:4])
                fault = slow_fault(contract, passed, table, answer)
                if fault is not None:
                    return ("answer", i, fault), steps, None, None
                keys, bits, table = answer
                call = (passed, (keys, bits))
        ns += keys
        gs += bits
        steps.append((ahead, table, call))
    return None, steps, named("xpng", (*givens, ns, gs)), table


def back(told, body):
    """What a body gives back, by the dict of names."""
    return tuple(tuple(source(told, one) for one in part) for part in body[1:])


def slow_obligations(library, unit):
    """The obligations of a unit: [140]."""
    contract, body = library[1][unit]
    found = []
    for i, item in enumerate(body[0]):
        if item[0] == "call":
            found += [("call", i, c) for c, _ in enumerate(library[1][item[1]][0][2])]
            if item[1] == unit and contract[4] is not None:
                found += [("falls", i)]
    return (*found, *(("after", c) for c, _ in enumerate(contract[3])))


def slow_clause(question):
    """The clause of a question, or None: [141]."""
    library, unit, aim = question
    contract, body = library[1][unit]
    if aim[0] == "call":
        return library[1][body[0][aim[1]][1]][0][2][aim[2]]
    return {"after": lambda: contract[3][aim[1]], "clause": lambda: aim[1]}.get(aim[0], lambda: None)()


def slow_sum(question):
    """The counted formula and the number of values of a sum, or None."""
    library, unit, aim = question
    clause = slow_clause(question)
    if aim[0] == "falls":
        return library[1][unit][0][4][0], 0
    if clause is not None and clause[0] == "change":
        return clause[1], clause[2]
    return None


def slow_items(question):
    """The items of a question: [141]; with the aim "same" those of both units."""
    library, unit, aim = question
    items = library[1][unit][1][0]
    if aim[0] in ("call", "falls"):
        return items[:aim[1]]
    return items + library[1][aim[1]][1][0] if aim[0] == "same" else items


def slow_pieces(question, told):
    """The pieces of a run from before of a sum, and what is due: [143]."""
    library, unit, aim = question
    givens, table, answers, value = told
    formula, many = slow_sum(question)
    items = slow_items(question)
    _, steps, names, _ = slow_told(library, items, givens, table, answers)
    found = []
    for item, (ahead, behind, call) in zip(items, steps):
        brackets = []
        if item[0] == "call":
            changes = [one for one in library[1][item[1]][0][3] if one[0] == "change"]
            brackets = [one for one in changes if one[1] == formula and one[2] == many]
        if item[0] == "call" and call is None:
            found.append(0)
        elif brackets:
            found.append(due(brackets[0][3], *call, value))
        else:
            found.append(count(formula, value, behind) - count(formula, value, ahead))
    contract, body = library[1][unit]
    if aim[0] == "falls":
        return tuple(found), -contract[4][1]
    return tuple(found), due(slow_clause(question)[3], givens, back(names, body), value)


def slow_play(question, told):
    """What a told run does: [142], [144], [240]."""
    library, unit, aim = question
    givens, table, answers, _ = told
    contract, body = library[1][unit]
    same = library[1][aim[1]] if aim[0] == "same" else None
    before = contract[2] + (same[0][2] if same else ())
    for c, clause in enumerate(before):
        if not keeps(clause, givens, ((), ()), table, table):
            return ("before", c)
    if same:
        ends = []
        for _, one in (library[1][unit], same):
            _, _, names, left = slow_told(library, one[0], givens, table, ())
            ends.append((back(names, one), left))
        (one, left), (two, other_left) = ends
        unlike = [("row", i) for i in range(len(table)) if left[i] != other_left[i]]
        place = ("results",) if one != two else unlike[0] if unlike else None
        return ("broken", place) if place else ("kept",)
    fault, _, names, left = slow_told(library, slow_items(question), givens, table, answers)
    if fault:
        return fault
    if aim[0] in ("call", "falls") and not guard(names, body[0][aim[1]][4]):
        return ("guard", aim[1])
    if slow_sum(question):
        found, wanted = slow_pieces(question, told)
        place = ("sum", sum(found), wanted) if sum(found) != wanted else None
    elif aim[0] == "call":
        passed = tuple(tuple(source(names, one) for one in part) for part in body[0][aim[1]][2:4])
        place = failure(slow_clause(question), passed, ((), ()), left, left)
    else:
        place = failure(slow_clause(question), givens, back(names, body), table, left)
    return ("broken", place) if place else ("kept",)
