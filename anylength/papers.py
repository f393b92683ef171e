"""Papers: their work, and the judge, who takes or refuses them without a search."""

from anylength.guesses import column_guesses, entry_guesses, entry_rows
from anylength.limits import check_limit
from anylength.orders import ranks
from anylength.plans import Plan, total_size
from anylength.searching import Ways, may_end, ways_from


def work(question, paper):
    """The work of a paper."""
    return work_of_rows(Plan(question), paper)


def stages_work(question, stages):
    """The work of stages; it is 0 if there are none."""
    return work_of_stages(Plan(question), stages)


def work_of_rows(plan, rows):
    """The number of guesses at entering and behind these rows."""
    return entry_guesses(plan) + sum([column_guesses(plan, row[0]) for row in rows])


def work_of_stages(plan, stages):
    """The number of guesses at entering and behind the rows of all papers but the last one."""
    if len(stages) == 0:
        return 0
    return work_of_rows(plan, [row for paper in stages[:-1] for row in paper])


def judge(question, paper, *, limit=20000):
    """None if the paper is taken, otherwise the complaint."""
    ways = Ways(question)
    wrong = wrong_form(ways.plan, paper)
    if wrong is not None:
        return ("form", wrong)
    check_limit(work_of_rows(ways.plan, paper), limit)
    known = listing(paper)
    missing = missing_entry(ways.plan, known)
    if missing is not None:
        return ("start", missing)
    return rows_complaint(ways, paper, known, ())


def judge_stages(question, stages, *, limit=20000):
    """None if the stages are taken, otherwise the complaint."""
    ways = Ways(question)
    for n in range(len(stages)):
        wrong = wrong_form(ways.plan, stages[n])
        if wrong is not None:
            return ("form", n, wrong)
    check_limit(work_of_stages(ways.plan, stages), limit)
    if len(stages) == 0:
        return None
    known = [listing(paper) for paper in stages]
    missing = missing_entry(ways.plan, known[0])
    if missing is not None:
        return ("start", missing)
    # Behind the last paper nothing is listed, and nothing is asked for.
    known.append(None)
    for n in range(len(stages)):
        complaint = rows_complaint(ways, stages[n], known[n + 1], (n,))
        if complaint is not None:
            return complaint
    return None


def wrong_form(plan, paper):
    """The number of the first row whose form is wrong, or None."""
    keys, bits = total_size(plan.border_sizes)
    for i in range(len(paper)):
        order, told, _ = paper[i]
        if len(order) != keys or len(told) != bits or ranks(order) != order:
            return i
    return None


def listing(paper):
    """The dict that has the rows of the paper as its keys."""
    return {row: True for row in paper}


def is_listed(known, row):
    """True if the weight of the row is listed for its picture, as a number or by None."""
    return row in known or (row[0], row[1], None) in known


def first_missing(known, rows):
    """The least of the rows that is missing, or None."""
    missing = [row for row in rows if not is_listed(known, row)]
    return min(missing) if len(missing) > 0 else None


def missing_entry(plan, known):
    """The least entry that is missing, or None."""
    return first_missing(known, entry_rows(plan))


def rows_complaint(ways, paper, known, place):
    """The first complaint about a row of the paper, or None.

    `known` is the listing of what has to be listed behind the rows, None if
    nothing has; `place` stands ahead of the number of the row.
    """
    for i in range(len(paper)):
        keys, bits, weight = paper[i]
        if weight != 0 and may_end(ways, (keys, bits)):
            return ("end", *place, i)
        if known is not None:
            missing = first_missing(known, rows_behind(ways, paper[i]))
            if missing is not None:
                return ("column", *place, i, missing)
    return None


def rows_behind(ways, row):
    """The list of the rows behind a paper row."""
    keys, bits, total = row
    return [
        (*picture, None if total is None else total + weight)
        for weight, picture, _ in ways_from(ways, (keys, bits))
    ]
