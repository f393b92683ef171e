"""The errors of the program, each directly under AnylengthError."""


class AnylengthError(ValueError):
    """The base class of all errors of the program."""


class BadTerm(AnylengthError):
    """A term may not stand where it stands, or its digit is too great."""

    def __init__(self, term):
        AnylengthError.__init__(self, f"the term {term} may not stand here")
        self.term = term


class NoContract(AnylengthError):
    """A unit has no contract."""

    def __init__(self, unit):
        AnylengthError.__init__(self, f"unit {unit} has no contract")
        self.unit = unit


class NoBody(AnylengthError):
    """A unit has no body."""

    def __init__(self, unit):
        AnylengthError.__init__(self, f"unit {unit} has no body")
        self.unit = unit


class InUse(AnylengthError):
    """What a contract takes and gives cannot change, since a unit counts on it."""

    def __init__(self, unit):
        AnylengthError.__init__(self, f"unit {unit} counts on what the contract takes and gives")
        self.unit = unit


class HasCalls(AnylengthError):
    """A body has a call where none may be."""

    def __init__(self, unit):
        AnylengthError.__init__(self, f"the body of unit {unit} has a call")
        self.unit = unit


class BadCall(AnylengthError):
    """A call passes another number of keys or bits than the called unit takes."""

    def __init__(self, item):
        AnylengthError.__init__(self, f"item {item} does not pass what the called unit takes")
        self.item = item


class BadResults(AnylengthError):
    """A body gives back another number of keys or bits than its contract."""


class OtherNumbers(AnylengthError):
    """Two contracts do not take and give the same numbers."""


class NoObligation(AnylengthError):
    """A unit has no obligation with this number."""

    def __init__(self, number):
        AnylengthError.__init__(self, f"there is no obligation {number}")
        self.number = number


class TooWide(AnylengthError):
    """A question has more guesses than the limit allows."""

    def __init__(self, number):
        AnylengthError.__init__(self, f"{number} is above the limit")
        self.number = number


class TooLong(AnylengthError):
    """More units than allowed were to begin in a run."""

    def __init__(self, most):
        AnylengthError.__init__(self, f"more than {most} units were to begin")
        self.most = most


class NothingToUndo(AnylengthError):
    """The log has fewer changes than are to be taken back."""
