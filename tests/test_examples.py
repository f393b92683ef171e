"""The examples of the document, as they are printed there, in its order."""

import unittest
from pathlib import Path

from anylength import errors

FOLDER = Path(__file__).parent / "examples"
# "opening" is the example of [3].
SECTIONS = (
    "opening", "orders", "amalgams", "formulas", "logic", "clauses", "watches", "walks",
    "contracts", "bodies", "libraries", "runs", "obligations", "playing", "questions", "columns",
    "tracks", "papers", "deciding", "strongest", "sameness", "greatest", "stores",
)


def steps(text):
    """The pairs of what is asked and of the line that is printed below it, or None."""
    lines = text.splitlines()
    found = []
    for at, line in enumerate(lines):
        if line.startswith(">>> "):
            below = lines[at + 1] if at + 1 < len(lines) else ">>> "
            found.append((line[4:], None if below.startswith(">>> ") else below))
    return found


def evaluated(asked, names):
    """The value of an expression; None for a statement."""
    try:
        code = compile(asked, "example", "eval")
    except SyntaxError:
        exec(asked, names)
        return None
    return eval(code, names)


class Examples(unittest.TestCase):
    def test_every_example(self):
        names = {}
        for section in SECTIONS:
            for asked, printed in steps((FOLDER / f"{section}.txt").read_text()):
                with self.subTest(section=section, asked=asked):
                    self.check(asked, printed, names)

    def check(self, asked, printed, names):
        if printed is not None and printed.startswith("raises "):
            with self.assertRaises(getattr(errors, printed[7:])):
                evaluated(asked, names)
            return
        value = evaluated(asked, names)
        self.assertEqual(None if value is None else repr(value), printed)

    def test_the_examples_are_found(self):
        many = [len(steps((FOLDER / f"{section}.txt").read_text())) for section in SECTIONS]
        wanted = [14, 5, 5, 6, 5, 14, 7, 8, 10, 11, 7, 8, 4, 8, 10, 10, 8, 7, 15, 7, 6, 11, 17]
        self.assertEqual(many, wanted)


if __name__ == "__main__":
    unittest.main()
