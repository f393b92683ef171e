"""Stores: libraries that are changed step by step, and what is known of their obligations."""

from anylength.bodies import check_body
from anylength.contracts import check_contract
from anylength.deciding import decide
from anylength.errors import AnylengthError, InUse, NoBody, NoContract, NoObligation, NothingToUndo
from anylength.libraries import callers, out_of_order, reaches
from anylength.obligations import obligations
from anylength.papers import judge
from anylength.runs import run
from anylength.units import body_of, contract_of

UNITS = 4
OPEN = ("open", None)


class Store:
    """A library of four units, the status of their obligations, and the log of the changes.

    A state is the pair of the library and, for each unit, the tuple of the pairs
    of status and evidence of its obligations. The states ahead of the changes of
    the log are kept, with the present one behind them.
    """

    def __init__(self, shape, *, limit=10000):
        self._limit = limit
        self._log = []
        self._states = [((shape, (None,) * UNITS), ((),) * UNITS)]
        self._known = ()

    def put_contract(self, unit, contract):
        """Puts a contract; returns the units whose obligations are opened."""
        library, marks = self._states[-1]
        check_contract(library[0], contract)
        elder = contract_of(library, unit)
        if elder is not None and contract[:2] != elder[:2]:
            check_unused(library, unit)
        opened = ()
        if contract != elder:
            opened = counting_on(library, unit)
            library = with_unit(library, unit, (contract, body_of(library, unit)))
            marks = with_opened(library, marks, opened)
        self._keep(("contract", unit, contract), (library, marks))
        return opened

    def put_body(self, unit, body):
        """Puts a body, or takes it away; returns the units whose obligations are opened."""
        library, marks = self._states[-1]
        check_known(library, unit)
        if body is not None:
            check_body(library, unit, body)
        opened = ()
        if body != body_of(library, unit):
            opened = (unit,)
            library = with_unit(library, unit, (contract_of(library, unit), body))
            marks = with_opened(library, marks, opened)
        self._keep(("body", unit, body), (library, marks))
        return opened

    def decide(self, unit, number):
        """Decides an obligation; returns the verdict with the paper or the told run."""
        library, marks = self._states[-1]
        question = asked(library, unit, number)
        found = decide(question, limit=self._limit)
        marks = with_mark(marks, unit, number, found)
        self._keep(("decide", unit, number), (library, marks))
        return found

    def judge(self, unit, number, paper):
        """Judges a paper for an obligation; returns the complaint, or None if it is taken."""
        library, marks = self._states[-1]
        question = asked(library, unit, number)
        complaint = judge(question, paper, limit=self._limit * 2)
        if complaint is None:
            marks = with_mark(marks, unit, number, ("holds", paper))
        self._keep(("judge", unit, number, paper), (library, marks))
        return complaint

    def apply(self, changes):
        """Makes the changes, all of them or none; returns what they return."""
        many = len(self._log)
        try:
            returned = [self._change(change) for change in changes]
        except AnylengthError:
            self._back_to(many)
            raise
        return tuple(returned)

    def undo(self, *, many=1):
        """Takes the last changes back; returns them, the last one first."""
        if len(self._log) < many:
            raise NothingToUndo()
        undone = self._log[-many:]
        self._back_to(len(self._log) - many)
        return tuple(undone[::-1])

    @classmethod
    def made(cls, shape, changes, *, limit=10000):
        """A new store to which the changes were applied."""
        store = cls(shape, limit=limit)
        store.apply(changes)
        return store

    def status(self, unit):
        """The tuple of the status of the obligations of the unit."""
        library, marks = self._states[-1]
        check_known(library, unit)
        return tuple([status for status, _ in marks[unit]])

    def evidence(self, unit, number):
        """The evidence of an obligation: None, a paper or a told run."""
        library, marks = self._states[-1]
        check_obligation(library, unit, number)
        return marks[unit][number][1]

    def lacks(self, unit):
        """What the unit lacks to be sound."""
        library, marks = self._states[-1]
        check_known(library, unit)
        reached = reaches(library, unit)
        return tuple([lack for other in reached for lack in lacks_of(library, marks, other)])

    def sound(self, unit):
        """True if the unit lacks nothing, otherwise False."""
        return len(self.lacks(unit)) == 0

    def total(self, unit):
        """True if the unit is sound and reaches no call out of order, otherwise False."""
        return self.sound(unit) and len(out_of_order(self._states[-1][0], unit)) == 0

    def run(self, unit, givens, table, *, most=20):
        """The pair of the results and the table that a run of the unit leaves."""
        library = self._states[-1][0]
        check_known(library, unit)
        return run(library, unit, givens, table, most=most)

    @property
    def library(self):
        """The library as it is."""
        return self._states[-1][0]

    @property
    def limit(self):
        """The limit."""
        return self._limit

    @property
    def log(self):
        """The tuple of the changes that were made."""
        return tuple(self._log)

    def __len__(self):
        return len(self._known)

    def __iter__(self):
        return iter(self._known)

    def __contains__(self, unit):
        return unit in self._known

    def _change(self, change):
        """Makes a change; returns what it returns."""
        word, unit, what = change[:3]
        if word == "contract":
            return self.put_contract(unit, what)
        if word == "body":
            return self.put_body(unit, what)
        if word == "decide":
            return self.decide(unit, what)
        return self.judge(unit, what, change[3])

    def _keep(self, change, state):
        """Puts a change into the log, and the state behind it into its place."""
        self._log.append(change)
        self._states.append(state)
        self._known = known_units(state[0])

    def _back_to(self, many):
        """Takes all changes back but the first ones, so many of them."""
        del self._log[many:]
        del self._states[many + 1:]
        self._known = known_units(self._states[-1][0])


def known_units(library):
    """The ascending tuple of the units with a contract."""
    return tuple([unit for unit in range(UNITS) if contract_of(library, unit) is not None])


def check_known(library, unit):
    """Raises NoContract if the unit has no contract."""
    if contract_of(library, unit) is None:
        raise NoContract(unit)


def check_obligation(library, unit, number):
    """Raises an error unless the unit has an obligation with this number."""
    check_known(library, unit)
    if body_of(library, unit) is None:
        raise NoBody(unit)
    if number >= len(obligations(library, unit)):
        raise NoObligation(number)


def asked(library, unit, number):
    """The question of an obligation, if there is one, otherwise raises an error."""
    check_obligation(library, unit, number)
    return (library, unit, obligations(library, unit)[number])


def counting_on(library, unit):
    """The ascending tuple of the units with a body that are the unit or call it."""
    calling = callers(library, unit)
    own = body_of(library, unit) is not None
    return tuple([other for other in range(UNITS) if other in calling or (own and other == unit)])


def check_unused(library, unit):
    """Raises InUse if a body counts on what the contract of the unit takes and gives."""
    users = counting_on(library, unit)
    if len(users) > 0:
        raise InUse(users[0])


def with_unit(library, unit, told):
    """The library with this contract and body of a unit."""
    shape, units = library
    return (shape, replaced(units, unit, told))


def replaced(told, at, fresh):
    """The tuple with another element at a place."""
    return (*told[:at], fresh, *told[at + 1:])


def with_opened(library, marks, units):
    """The marks with those obligations open that these units have now."""
    for unit in units:
        many = 0 if body_of(library, unit) is None else len(obligations(library, unit))
        marks = replaced(marks, unit, (OPEN,) * many)
    return marks


def with_mark(marks, unit, number, mark):
    """The marks with another pair of status and evidence of an obligation."""
    return replaced(marks, unit, replaced(marks[unit], number, mark))


def lacks_of(library, marks, unit):
    """The list of what a unit itself lacks."""
    if body_of(library, unit) is None:
        return [("body", unit)]
    numbers = range(len(marks[unit]))
    told = [(number, marks[unit][number][0]) for number in numbers]
    return [(status, unit, number) for number, status in told if status != "holds"]
