"""Short ways to write contracts, calls and questions, and libraries that several tests ask about."""

from anylength.libraries import check_library

NOTHING = ((), ())
ALWAYS = ((),)
NEVER = ()
MARKED = ((("is", "m0", True),),)
UNMARKED = ((("is", "m0", False),),)
ASCENDING = ((("<=", "k0", "K0"),),)
SAME_MARK = ((("is", "m0", True), ("is", "u0", True)), (("is", "m0", False), ("is", "u0", False)))
OFTEN = ((("=", "k0", "v0"),),)
NO_FEWER = ("change", MARKED, 0, ())
# Walks: the first marked row is unmarked, all rows are marked or unmarked, the field 0 is carried.
FIRST = ("up", (), (False,), (((("is", "m0", True), ("is", "f0", False)), (("m0", False), ("f0", True)), False),),
         ("f0",))
SET = ("up", (), (), (((), (("m0", True),), False),), ())
UNSET = ("down", (), (), (((), (("m0", False),), False),), ())
CARRY = ("up", ("x0",), (), (((), (("r0", "k0"), ("k0", "r0")), False),), ("r0",))
CLIMB = ("up", (0,), (), (((("<", "r0", "k0"),), (("r0", "k0"),), False),), ("r0",))
TAKE = ("up", (0,), (), (((), (("r0", "k0"),), False),), ("r0",))
BOUNDED = ((0, 0), (1, 0), (), (("each", ((("<=", "k0", "y0"),),)),), None)


def contract(takes=(0, 0), gives=(0, 0), before=(), after=(), falls=None):
    return (takes, gives, before, after, falls)


def call(unit, keys=(), bits=(), guard=()):
    return ("call", unit, keys, bits, guard)


def body(*items, keys=(), bits=()):
    return (items, keys, bits)


def asked(shape, aim, *units, unit=0):
    """A question, of a library that is looked at."""
    library = (shape, units)
    assert check_library(library) is None
    return (library, unit, aim)


# STEP and CLEAR of the document, and STEP with a body that unmarks all rows.
FEWER = ("change", MARKED, 0, ((-1, ((("is", "q0", True),),)),))
STEP = ((0, 0), (0, 1), (), (FEWER, ("each", ((("is", "q0", True),), (("is", "m0", False),)))), None)
CLEAR = ((0, 0), (0, 0), (), (("each", UNMARKED),), (MARKED, 1))
STEP_BODY = body(FIRST, bits=("g0",))
CLEAR_BODY = body(call(0), call(1, guard=(("is", "g0", True),)))
HASTY_BODY = body(("up", (), (False,), (((("is", "m0", True),), (("m0", False), ("f0", True)), False),), ("f0",)),
                  bits=("g0",))
MARKS = ((0, 1), ((STEP, STEP_BODY), (CLEAR, CLEAR_BODY)))
HASTY = ((0, 1), ((STEP, HASTY_BODY), (CLEAR, CLEAR_BODY)))
TOP = ((1, 0), ((BOUNDED, body(CLIMB, keys=("n0",))),))
LAST = ((1, 0), ((BOUNDED, body(TAKE, keys=("n0",))),))


# A walk that unmarks the first three marked rows, with its two flags as a counter.
THREE = ("up", (), (False, False),
         (((("is", "m0", True), ("is", "f0", False)), (("m0", False), ("f0", True)), False),
          ((("is", "m0", True), ("is", "f1", False)), (("m0", False), ("f0", False), ("f1", True)), False)),
         ())
