"""Questions, row by row: the layout of their borders, what is guessed, and their width."""

from anylength.aims import items_asked, many_values
from anylength.orders import count_orders
from anylength.parts import item_parts, parts, picks, placed, state_layout
from anylength.terms import terms_from
from anylength.units import contract_of, made_by


def layout(question):
    """The names of the keys and of the bits of a border, in order."""
    return joined([name_layout(question), *states_layout(question, parts(question))])


def guessed(question):
    """The names of the guessed keys and bits, at entering and in a column."""
    items = item_parts(question)
    ghosts = [place for kind, place, _ in items if kind == "call"]
    rows = [row_layout(question, place) for place in [("found",), *ghosts]]
    down = [part for part in items if part[2][0] == "down"]
    states = states_layout(question, down)
    picked = ((), (("pick",),) if picks(question) else ())
    return (joined([name_layout(question), *states]), joined([*rows, *states, picked]))


def width(question):
    """The number of all guesses from all pictures that a border could have."""
    keys, bits = joined([layout(question), guessed(question)[1]])
    number = count_orders(len(keys))
    for _ in bits:
        number = number * 2
    return number


def name_layout(question):
    """The names in the layout of the names and of the value."""
    library, unit, _ = question
    takes = contract_of(library, unit)[0]
    made = [made_by(library, item) for item in items_asked(question)]
    keys = terms_from("x", 0, takes[0]) + terms_from("n", 0, sum([one[0] for one in made]))
    bits = terms_from("p", 0, takes[1]) + terms_from("g", 0, sum([one[1] for one in made]))
    value = placed(("value",), terms_from("v", 0, many_values(question)))
    return (placed(("name",), keys) + value, placed(("name",), bits))


def states_layout(question, some_parts):
    """The list of the names in the layout of the states of these parts."""
    return [state_layout(question[0], part) for part in some_parts]


def row_layout(question, place):
    """The names of the keys and of the bits of a row that is guessed."""
    fields, marks = question[0][0]
    return (placed(place, terms_from("k", 0, fields)), placed(place, terms_from("m", 0, marks)))


def joined(layouts):
    """All keys of these layouts, one behind another, and all bits likewise."""
    keys = [name for names, _ in layouts for name in names]
    bits = [name for _, names in layouts for name in names]
    return (tuple(keys), tuple(bits))
