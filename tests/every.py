"""All told runs on few rows, and what is reached: slow searches to compare verdicts with."""

from itertools import product

from anylength.orders import count_orders, orders
from tests.slow import slow_items, slow_play, slow_sum
from tests.slow_rows import slow_columns, slow_complete, slow_entries


def numbers(question, rows, made):
    """How many keys and bits there are in told runs with so many rows and these calls made."""
    (shape, units), unit, _ = question
    takes = units[unit][0][0]
    calls = [item for item in slow_items(question) if item[0] == "call"]
    gives = [units[one[1]][0][1] for one, yes in zip(calls, made) if yes]
    tables = rows * (1 + len(gives))
    value = slow_sum(question)[1] if slow_sum(question) else 0
    keys = takes[0] + tables * shape[0] + sum(one[0] for one in gives) + value
    bits = takes[1] + tables * shape[1] + sum(one[1] for one in gives)
    return keys, bits, gives, value


def choices(question):
    """For each call among the items whether it is made, in all ways."""
    calls = sum(item[0] == "call" for item in slow_items(question))
    return product((False, True), repeat=calls)


def how_many(question, rows):
    """The number of told runs with so many rows that every_run yields."""
    found = 0
    for made in choices(question):
        keys, bits, _, _ = numbers(question, rows, made)
        found += count_orders(keys) * 2 ** bits
    return found


def every_run(question, rows):
    """All told runs with so many rows whose keys are an order, whatever their answers are."""
    (shape, units), unit, _ = question
    takes = units[unit][0][0]
    for made in choices(question):
        many, more, gives, value = numbers(question, rows, made)
        for order in orders(many):
            for bits in product((False, True), repeat=more):
                left = [list(order), list(bits)]

                def pair(size):
                    taken = tuple(tuple(left[at][:size[at]]) for at in (0, 1))
                    left[0], left[1] = left[0][size[0]:], left[1][size[1]:]
                    return taken

                def table():
                    return tuple(sum(pair(shape), ()) for _ in range(rows))

                givens, found, given = pair(takes), table(), iter(gives)
                answers = tuple((*pair(next(given)), table()) if yes else None for yes in made)
                yield givens, found, answers, pair((value, 0))[0][0] if value else 0


def least_broken(question, rows, most=4000):
    """The least number of rows up to this one on which a run breaks the question, or None.

    It is the pair of this and the number of rows up to which was searched.
    """
    for many in range(rows + 1):
        if how_many(question, many) > most:
            return None, many - 1
        if any(slow_play(question, told)[0] == "broken" for told in every_run(question, many)):
            return many, many
    return None, rows


def slow_levels(question):
    """The list of the levels, and the dict from all reached pictures to the sets of weights.

    Weights are followed as far as two of them go.
    """
    level = {}
    for keys, bits, weight in slow_entries(question):
        level.setdefault((keys, bits), set()).add(weight)
    levels, weights, behind = [], {}, {}
    while level:
        fresh = {picture for picture in level if picture not in weights}
        if fresh:
            levels.append(tuple(sorted(fresh)))
        further = {}
        for picture, some in level.items():
            known = weights.setdefault(picture, set())
            for weight in sorted(some - known):
                if len(known) < 2:
                    known.add(weight)
                    if picture not in behind:
                        behind[picture] = slow_columns(question, picture)
                    for _, _, more, there in behind[picture]:
                        further.setdefault(there, set()).add(weight + more)
        level = further
    return tuple(levels), weights


def slow_paper(weights):
    """The found paper of a question that holds, by the weights of all reached pictures."""
    return tuple(sorted((*picture, sorted(some)[0] if len(some) == 1 else None)
                        for picture, some in weights.items()))


def slow_judge(question, paper):
    """The complaint about a paper, or None: [202]; its form is right."""
    return slow_stages_judge(question, (paper,), True)


def slow_stages_judge(question, papers, single=False):
    """The complaint about stages, or None: [204]; a single paper is followed by itself."""
    def listed(paper, row):
        return row in paper or (*row[:2], None) in paper

    missing = [row for row in slow_entries(question) if not listed(papers[0], row)]
    if missing:
        return ("start", missing[0])
    for n, paper in enumerate(papers):
        for i, (keys, bits, weight) in enumerate(paper):
            place = (i,) if single else (n, i)
            if slow_complete(question, (keys, bits)) and weight != 0:
                return ("end", *place)
            further = paper if single else papers[n + 1] if n + 1 < len(papers) else None
            if further is None:
                continue
            rows = {(*behind, None if weight is None else weight + more)
                    for _, _, more, behind in slow_columns(question, (keys, bits))}
            missing = sorted(row for row in rows if not listed(further, row))
            if missing:
                return ("column", *place, missing[0])
    return None
