"""Formulas: whether they hold in a view, their terms and their needs."""


def holds(formula, view):
    """True if the formula holds in the view, otherwise False."""
    return first_case(formula, view) is not None


def first_case(formula, view):
    """The number of the first case all of whose literals hold, or None."""
    told = {term: value for term, value in view}
    for number in range(len(formula)):
        if all_hold(formula[number], told):
            return number
    return None


def all_hold(literals, told):
    """True if all of the literals hold, by a dict from terms to what they stand for."""
    for literal in literals:
        if not literal_holds(literal, told):
            return False
    return True


def literal_holds(literal, told):
    """True if the literal holds, by a dict from terms to what they stand for."""
    op, a, b = literal
    if op == "is":
        return told[a] == b
    left, right = value_of(a, told), value_of(b, told)
    if op == "<":
        return left < right
    if op == "<=":
        return left <= right
    if op == "=":
        return left == right
    return left != right


def value_of(source, told):
    """The key or the bit of a source, by a dict from terms to what they stand for."""
    return told[source] if isinstance(source, str) else source


def values_of(sources, told):
    """The tuple of the keys or the bits of the sources, by a dict likewise."""
    return tuple([value_of(source, told) for source in sources])


def terms_of(formula):
    """The tuple of the terms in the formula, each once, ascending."""
    literals = [literal for case in formula for literal in case]
    return tuple(sorted(set([term for literal in literals for term in literal_terms(literal)])))


def literal_terms(literal):
    """The list of the terms in a literal."""
    op, a, b = literal
    if op == "is":
        return [a]
    return [source for source in (a, b) if source != 0]


def needs(formula):
    """The needs of the formula: the terms of keys and of bits that read the first row."""
    terms = terms_of(formula)
    return (with_letters("wk", terms), with_letters("um", terms))


def with_letters(letters, terms):
    """The tuple of those terms that have one of the letters, letter by letter."""
    return tuple([term for letter in letters for term in terms if term[0] == letter])


def is_key_term(term):
    """True if the term stands for a key, False if it stands for a bit."""
    return term[0] in "xynrkwKWv"
