"""What formulas say of all keys and bits: possible, against, negated."""

from anylength.formulas import holds, is_key_term, terms_of
from anylength.orders import orders


def possible(formula):
    """A view with exactly the terms of the formula in which it holds, or None."""
    # The formula without cases never holds, and it has no terms.
    return against(formula, ())


def against(first, second):
    """A view with exactly the terms of both in which the first holds, not the second, or None."""
    terms = terms_of(first + second)
    key_terms = [term for term in terms if is_key_term(term)]
    bit_terms = [term for term in terms if not is_key_term(term)]
    bit_views = [tuple(zip(bit_terms, bits)) for bits in all_bits(len(bit_terms))]
    # Other keys in the same order make the same literals hold, so the orders are enough.
    for keys in orders(len(key_terms)):
        key_view = tuple(zip(key_terms, keys))
        for bit_view in bit_views:
            view = key_view + bit_view
            if holds(first, view) and not holds(second, view):
                return view
    return None


def all_bits(many):
    """The list of all tuples of so many bits, ascending."""
    found = [()]
    for _ in range(many):
        found = [bits + (bit,) for bits in found for bit in (False, True)]
    return found


def negated(formula):
    """A formula that holds in exactly those views in which the told one does not hold."""
    # The formula fails if in each of its cases some literal fails.
    found = [()]
    for case in formula:
        opposites = [opposite(literal) for literal in case]
        longer = [with_literal(chosen, literal) for chosen in found for literal in opposites]
        found = without_needless(longer)
    return tuple(found)


def opposite(literal):
    """The literal that holds exactly where the told one does not hold."""
    op, a, b = literal
    if op == "is":
        return ("is", a, not b)
    if op == "<":
        return ("<=", b, a)
    if op == "<=":
        return ("<", b, a)
    return ("!=" if op == "=" else "=", a, b)


def with_literal(case, literal):
    """The case with the literal, once."""
    return case if literal in case else case + (literal,)


def without_needless(cases):
    """The list of the cases without those that hold only where another one of them holds."""
    kept = []
    for case in cases:
        if not any([is_part(other, case) for other in kept]):
            kept = [other for other in kept if not is_part(case, other)]
            kept.append(case)
    return kept


def is_part(part, case):
    """True if all literals of the part are literals of the case."""
    return all([literal in case for literal in part])
