"""Plans: what is worked out of a question once, ahead of all its borders and columns."""

from anylength.aims import bracket_shares, counted_formula, items_asked, many_values
from anylength.parts import parts, picks, state_layout, watched_clauses
from anylength.questions import name_layout
from anylength.units import contract_of, items_of, made_by
from anylength.watches import watch_layout


class Plan:
    """A question, its parts, and the sizes of all that stands in borders and guesses.

    A size is a pair of a number of keys and a number of bits. Lists that tell
    something of parts have a place for each part.
    """

    def __init__(self, question):
        library = question[0]
        self.question = question
        self.parts = parts(question)
        self.picks = picks(question)
        self.counted = counted_formula(question)
        self.shares = [part_shares(question, part) for part in self.parts]
        self.watches = [call_watches(library, part) for part in self.parts]
        self.names_at = names_at(question, self.parts)
        self.own_names = own_names(question)
        self.name_sizes = name_sizes(question)
        self.state_sizes = [size_of(state_layout(library, part)) for part in self.parts]
        self.calls = numbers_of(self.parts, "call")
        self.downward = [at for at in numbers_of(self.parts, "walk") if is_down(self.parts[at])]
        names = size_of(name_layout(question))
        down = [self.state_sizes[at] for at in self.downward]
        rows = [library[0] for _ in range(len(self.calls) + 1)]
        self.border_sizes = [names, *self.state_sizes]
        self.entry_sizes = [names, *down]
        self.column_sizes = [*rows, *down, (0, 1 if self.picks else 0)]


def size_of(layout):
    """The size of what a layout names."""
    keys, bits = layout
    return (len(keys), len(bits))


def total_size(sizes):
    """The size of several things, one behind another."""
    return (sum([keys for keys, _ in sizes]), sum([bits for _, bits in sizes]))


def numbers_of(some_parts, kind):
    """The list of the numbers of the parts of a kind."""
    return [at for at in range(len(some_parts)) if some_parts[at][0] == kind]


def is_down(part):
    """True if the part, a walk, goes downwards."""
    return part[2][0] == "down"


def part_shares(question, part):
    """The shares of the bracket of a part, None if it is not bracketed, or no call."""
    return bracket_shares(question, part[2]) if part[0] == "call" else None


def call_watches(library, part):
    """The list of the pairs of a clause that a call watches and of the size of its state."""
    if part[0] != "call":
        return []
    clauses = watched_clauses(contract_of(library, part[2][1])[3])
    return [(clause, size_of(watch_layout(clause, False))) for _, clause in clauses]


def names_at(question, some_parts):
    """For each item's part the sizes of the names made ahead of it and up to its end, or None."""
    found = []
    ahead = (0, 0)
    for kind, _, what in some_parts:
        if kind in ("walk", "call"):
            behind = total_size([ahead, made_by(question[0], what)])
            found.append((ahead, behind))
            ahead = behind
        else:
            found.append(None)
    return found


def own_names(question):
    """The size of the names that the items of the unit make, without those of another one."""
    own = items_asked(question)[:len(items_of(question[0], question[1]))]
    return total_size([made_by(question[0], item) for item in own])


def name_sizes(question):
    """How many there are of the keys x, n and v, and how many of the bits p and g."""
    library, unit, _ = question
    takes = contract_of(library, unit)[0]
    made = total_size([made_by(library, item) for item in items_asked(question)])
    return ((takes[0], made[0], many_values(question)), (takes[1], made[1]))


def cut(told, numbers):
    """The list of the pieces of a tuple, so many elements each."""
    pieces = []
    first = 0
    for number in numbers:
        pieces.append(told[first:first + number])
        first += number
    return pieces


def cut_both(keys, bits, sizes):
    """The list of the pairs of keys and bits of these sizes, one behind another."""
    first = cut(keys, [size[0] for size in sizes])
    second = cut(bits, [size[1] for size in sizes])
    return list(zip(first, second))
