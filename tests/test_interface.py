"""The interface: its names and arguments, each defined in the file that lists it."""

import importlib
import inspect
import unittest

LISTED = {
    "orders": (
        "ranks(keys)",
        "alike(first, second)",
        "count_orders(many)",
        "orders(many)",
        "count_extensions(order, many)",
        "extensions(order, many)",
    ),
    "amalgams": ("amalgams(first, second, shared)", "chained(chain, shared)"),
    "formulas": (
        "holds(formula, view)",
        "first_case(formula, view)",
        "terms_of(formula)",
        "needs(formula)",
    ),
    "logic": ("possible(formula)", "against(first, second)", "negated(formula)"),
    "clauses": (
        "keeps(clause, givens, results, found, now)",
        "verdicts(clause, givens, results, found, now)",
        "failure(clause, givens, results, found, now)",
        "count(formula, value, table)",
        "due(shares, givens, results, value)",
    ),
    "watches": (
        "watch_layout(clause, broken)",
        "watched(clause, broken, givens, results, found, now, *, row=None)",
        "right_at_end(clause, broken, state)",
    ),
    "walks": (
        "begin(walk, names)",
        "visit(walk, names, state, row)",
        "fired(walk, names, state, row)",
        "states_between(walk, names, table)",
        "go(walk, names, table)",
        "goes(walk, names, found, states, now)",
        "visits(walk, names, table)",
    ),
    "contracts": (
        "check_contract(shape, contract)",
        "begins(contract, givens, table)",
        "ends(contract, givens, results, found, now)",
        "answer_fault(contract, givens, found, answer)",
        "bracket(contract, formula, many)",
    ),
    "bodies": ("check_body(library, unit, body)", "names_made(library, body)"),
    "libraries": (
        "check_library(library)",
        "callers(library, unit)",
        "reaches(library, unit)",
        "out_of_order(library, unit)",
        "bound(library, unit, rows)",
        "with_after(library, unit, clauses)",
    ),
    "runs": (
        "run(library, unit, givens, table, *, most=20)",
        "traced(library, unit, givens, table, *, most=20)",
        "answered(library, unit, givens, table, answers)",
    ),
    "obligations": ("obligations(library, unit)", "pieces(question, told)"),
    "playing": ("play(question, told)",),
    "questions": ("layout(question)", "guessed(question)", "width(question)"),
    "columns": (
        "enter(question, keys, bits)",
        "cross(question, border, keys, bits)",
        "complete(question, border)",
        "entries(question, *, limit=10000)",
        "columns(question, border, *, limit=10000)",
    ),
    "tracks": (
        "path(question, told, *, row=None)",
        "follow(question, track)",
        "told_run(question, track)",
    ),
    "papers": (
        "work(question, paper)",
        "stages_work(question, stages)",
        "judge(question, paper, *, limit=20000)",
        "judge_stages(question, stages, *, limit=20000)",
    ),
    "deciding": (
        "levels(question, *, limit=10000)",
        "reach(question, picture, *, limit=10000)",
        "stages(question, rows, *, limit=10000)",
        "decide(question, *, limit=10000)",
    ),
    "strongest": (
        "strongest(library, unit, keys, bits, *, limit=10000)",
        "shown(library, unit, keys, bits, case, *, limit=10000)",
        "promise(library, unit, keys, bits, *, limit=10000)",
    ),
    "sameness": ("same(library, unit, other, *, limit=10000)",),
    "greatest": (
        "stands(library, unit, clauses, *, limit=10000)",
        "rounds(library, unit, candidates, *, limit=10000)",
        "greatest(library, unit, candidates, *, limit=10000)",
    ),
}
# The functions that the document calls generators.
GENERATORS = ("visits", "rounds")
METHODS = (
    "__init__(self, shape, *, limit=10000)",
    "put_contract(self, unit, contract)",
    "put_body(self, unit, body)",
    "decide(self, unit, number)",
    "judge(self, unit, number, paper)",
    "apply(self, changes)",
    "undo(self, *, many=1)",
    "status(self, unit)",
    "lacks(self, unit)",
    "sound(self, unit)",
    "total(self, unit)",
    "evidence(self, unit, number)",
    "run(self, unit, givens, table, *, most=20)",
    "__len__(self)",
    "__iter__(self)",
    "__contains__(self, unit)",
)
PROPERTIES = ("library", "limit", "log")


class Interface(unittest.TestCase):
    def test_names_arguments_and_places(self):
        for name, listed in LISTED.items():
            module = importlib.import_module(f"anylength.{name}")
            for wanted in listed:
                with self.subTest(module=name, wanted=wanted):
                    function = getattr(module, wanted.partition("(")[0])
                    self.assertTrue(inspect.isfunction(function))
                    self.assertEqual(function.__module__, f"anylength.{name}")
                    self.assertEqual(function.__name__ + str(inspect.signature(function)), wanted)
                    generates = function.__name__ in GENERATORS
                    self.assertIs(inspect.isgeneratorfunction(function), generates)

    def test_the_class_of_stores(self):
        module = importlib.import_module("anylength.stores")
        told = vars(module.Store)
        self.assertEqual(module.Store.__module__, "anylength.stores")
        for wanted in METHODS:
            method = told[wanted.partition("(")[0]]
            self.assertEqual(method.__name__ + str(inspect.signature(method)), wanted)
        for name in PROPERTIES:
            self.assertIsInstance(told[name], property)
        self.assertIsInstance(told["made"], classmethod)
        signature = str(inspect.signature(told["made"].__func__))
        self.assertEqual(signature, "(cls, shape, changes, *, limit=10000)")


if __name__ == "__main__":
    unittest.main()
