"""Views: what the terms of names and rows stand for."""


def numbered(letter, values):
    """The view that numbers the values by terms of one letter."""
    return tuple([(f"{letter}{at}", values[at]) for at in range(len(values))])


def lettered(letters, values):
    """The view of several tuples of values, each with a letter of its own."""
    return tuple([pair for letter, part in zip(letters, values) for pair in numbered(letter, part)])


def names_view(givens, results):
    """The view of the givens and the results of a unit."""
    return lettered("xpyq", (*givens, *results))


def fields_of(row):
    """The tuple of the keys of a row, its fields."""
    return tuple([value for value in row if not isinstance(value, bool)])


def row_view(key_letter, bit_letter, row):
    """The view of the fields and the marks of one row."""
    fields = fields_of(row)
    return numbered(key_letter, fields) + numbered(bit_letter, row[len(fields):])


def first_row_view(found, now):
    """The view of a row as it was found and as it is now, as the first or only row."""
    return row_view("w", "u", found) + row_view("k", "m", now)


def second_row_view(found, now):
    """The view of a row as it was found and as it is now, as the second row."""
    return row_view("W", "U", found) + row_view("K", "M", now)
