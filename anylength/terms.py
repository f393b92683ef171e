"""Terms: rows of them, and the check that those of sources and formulas may stand there."""

from anylength.errors import BadTerm
from anylength.formulas import literal_terms


def check_formula(formula, letters, numbers):
    """Raises BadTerm for the first term, from left to right, that may not stand there."""
    for case in formula:
        check_guard(case, letters, numbers)


def check_guard(literals, letters, numbers):
    """The same for a tuple of literals."""
    for literal in literals:
        check_sources(literal_terms(literal), letters, numbers)


def check_sources(sources, letters, numbers):
    """The same for a tuple of sources."""
    for source in sources:
        if isinstance(source, str):
            check_term(source, letters, numbers)


def check_term(term, letters, numbers):
    """Raises BadTerm unless the letter is one of these, and the digit less than its number."""
    if term[0] not in letters or int(term[1:]) >= numbers[term[0]]:
        raise BadTerm(term)


def terms_from(letter, first, many):
    """The tuple of so many terms of a letter, from a first number on."""
    return tuple([f"{letter}{at}" for at in range(first, first + many)])
