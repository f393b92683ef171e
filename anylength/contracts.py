"""Contracts: whether they fit, whether they are kept, and what they say of answers."""

from anylength.clauses import keeps
from anylength.terms import check_formula

# The letters of the terms that may stand in a clause, by its kind.
BEFORE_LETTERS = {"names": "xp", "each": "xkpm", "some": "xkpm", "next": "xkKpmM"}
AFTER_LETTERS = {
    "names": "xypq",
    "each": "xykwpqmu",
    "some": "xykwpqmu",
    "next": "xykwKWpqmuMU",
    "pairs": "xykwKWpqmuMU",
}
COUNTED_LETTERS = "kvm"
SHARE_LETTERS = "xyvpq"
FALLS_LETTERS = "km"


def check_contract(shape, contract):
    """Returns None if the contract fits the shape, otherwise raises BadTerm."""
    _, _, before, after, falls = contract
    numbers = contract_numbers(shape, contract)
    for kind, formula in before:
        check_formula(formula, BEFORE_LETTERS[kind], numbers)
    for clause in after:
        if clause[0] == "change":
            check_change(clause, numbers)
        else:
            check_formula(clause[1], AFTER_LETTERS[clause[0]], numbers)
    if falls is not None:
        check_formula(falls[0], FALLS_LETTERS, numbers)


def check_change(clause, numbers):
    """Raises BadTerm for the first term of a change clause that may not stand there."""
    _, formula, many, shares = clause
    with_value = {**numbers, "v": many}
    check_formula(formula, COUNTED_LETTERS, with_value)
    for _, share in shares:
        check_formula(share, SHARE_LETTERS, with_value)


def contract_numbers(shape, contract):
    """The numbers that digits in clauses must be less than, by the letters of the terms."""
    fields, marks = shape
    numbers = {letter: fields for letter in "kwKW"}
    numbers.update({letter: marks for letter in "muMU"})
    numbers["x"], numbers["p"] = contract[0]
    numbers["y"], numbers["q"] = contract[1]
    return numbers


def begins(contract, givens, table):
    """None if all clauses of before are kept, otherwise the number of the first that is not."""
    return first_broken(contract[2], givens, ((), ()), table, table)


def ends(contract, givens, results, found, now):
    """None if all clauses of after are kept, otherwise the number of the first that is not."""
    return first_broken(contract[3], givens, results, found, now)


def first_broken(clauses, givens, results, found, now):
    """The number of the first clause that is not kept, or None."""
    for number in range(len(clauses)):
        if not keeps(clauses[number], givens, results, found, now):
            return number
    return None


def answer_fault(contract, givens, found, answer):
    """The fault of an answer that is not None, or None if it is allowed."""
    keys, bits, now = answer
    if len(now) != len(found):
        return ("rows",)
    after = contract[3]
    for number in range(len(after)):
        if after[number][0] in ("names", "each", "some", "next"):
            if not keeps(after[number], givens, (keys, bits), found, now):
                return ("clause", number)
    return None


def bracket(contract, formula, many):
    """The number of the clause that is the bracket for a counted formula, or None."""
    after = contract[3]
    for number in range(len(after)):
        if after[number][:3] == ("change", formula, many):
            return number
    return None
