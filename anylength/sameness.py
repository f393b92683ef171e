"""Sameness: whether two bodies without calls do the same."""

from anylength.deciding import decide
from anylength.errors import HasCalls, OtherNumbers
from anylength.units import calls_of, contract_of


def same(library, unit, other, *, limit=10000):
    """The pair of "same" and the found paper, or of "unlike" and a told run."""
    for one in (unit, other):
        if len(calls_of(library, one)) > 0:
            raise HasCalls(one)
    if contract_of(library, unit)[:2] != contract_of(library, other)[:2]:
        raise OtherNumbers()
    verdict, told = decide((library, unit, ("same", other)), limit=limit)
    return ("same" if verdict == "holds" else "unlike", told)
