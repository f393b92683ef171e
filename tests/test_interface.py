"""The interface: its names and arguments, each defined in the file that lists it."""

import importlib
import inspect
import unittest

LISTED = {
    "orders": (
        "ranks(keys)",
        "alike(first, second)",
        "count_orders(many)",
        "orders(many)",
        "count_extensions(order, many)",
        "extensions(order, many)",
    ),
    "amalgams": ("amalgams(first, second, shared)", "chained(chain, shared)"),
    "formulas": (
        "holds(formula, view)",
        "first_case(formula, view)",
        "terms_of(formula)",
        "needs(formula)",
    ),
    "logic": ("possible(formula)", "against(first, second)", "negated(formula)"),
    "clauses": (
        "keeps(clause, givens, results, found, now)",
        "verdicts(clause, givens, results, found, now)",
        "failure(clause, givens, results, found, now)",
        "count(formula, value, table)",
        "due(shares, givens, results, value)",
    ),
    "watches": (
        "watch_layout(clause, broken)",
        "watched(clause, broken, givens, results, found, now, *, row=None)",
        "right_at_end(clause, broken, state)",
    ),
}


class Interface(unittest.TestCase):
    def test_names_arguments_and_places(self):
        for name, listed in LISTED.items():
            module = importlib.import_module(f"anylength.{name}")
            for wanted in listed:
                with self.subTest(module=name, wanted=wanted):
                    function = getattr(module, wanted.partition("(")[0])
                    self.assertTrue(inspect.isfunction(function))
                    self.assertEqual(function.__module__, f"anylength.{name}")
                    self.assertEqual(function.__name__ + str(inspect.signature(function)), wanted)


if __name__ == "__main__":
    unittest.main()
