"""Aims: the items, the clauses and the counted formula that a question asks about."""

from anylength.contracts import bracket
from anylength.units import contract_of, is_call, items_of


def before_asked(question):
    """The clauses of before of the unit; with the aim "same" behind them those of the other."""
    library, unit, aim = question
    before = contract_of(library, unit)[2]
    if aim[0] == "same":
        return before + contract_of(library, aim[1])[2]
    return before


def items_asked(question):
    """The items of the question; with the aim "same" those of the unit, then of the other."""
    library, unit, aim = question
    items = items_of(library, unit)
    if aim[0] in ("call", "falls"):
        return items[:aim[1]]
    if aim[0] == "same":
        return items + items_of(library, aim[1])
    return items


def call_asked(question):
    """The call that the aims "call" and "falls" are about, None with any other aim."""
    library, unit, aim = question
    if aim[0] in ("call", "falls"):
        return items_of(library, unit)[aim[1]]
    return None


def clause_asked(question):
    """The clause of the question, or None."""
    library, unit, aim = question
    if aim[0] == "call":
        return contract_of(library, call_asked(question)[1])[2][aim[2]]
    if aim[0] == "after":
        return contract_of(library, unit)[3][aim[1]]
    if aim[0] == "clause":
        return aim[1]
    return None


def change_asked(question):
    """The clause of the question if it is of the kind change, otherwise None."""
    clause = clause_asked(question)
    return clause if clause is not None and clause[0] == "change" else None


def is_sum(question):
    """True if the question is a sum, otherwise False."""
    return counted_formula(question) is not None


def many_values(question):
    """How many values the question has, 0 or 1."""
    change = change_asked(question)
    return 0 if change is None else change[2]


def counted_formula(question):
    """The counted formula of the question, or None if it is no sum."""
    library, unit, aim = question
    if aim[0] == "falls":
        return contract_of(library, unit)[4][0]
    change = change_asked(question)
    return None if change is None else change[1]


def bracket_shares(question, item):
    """The shares of the bracket of an item of a sum, None if it is not bracketed, or a walk."""
    if not is_call(item):
        return None
    contract = contract_of(question[0], item[1])
    number = bracket(contract, counted_formula(question), many_values(question))
    return None if number is None else contract[3][number][3]
