"""The errors: [7] and the section anylength/errors.py of the interface."""

import unittest

from anylength import errors

# The name of each class and the attribute that is told for it, if any.
TOLD = {
    "BadTerm": "term",
    "NoContract": "unit",
    "NoBody": "unit",
    "InUse": "unit",
    "HasCalls": "unit",
    "BadCall": "item",
    "BadResults": None,
    "OtherNumbers": None,
    "NoObligation": "number",
    "TooWide": "number",
    "TooLong": "most",
    "NothingToUndo": None,
}


class Errors(unittest.TestCase):
    def test_the_base_class_is_under_value_error(self):
        self.assertEqual(errors.AnylengthError.__bases__, (ValueError,))

    def test_each_class_is_directly_under_the_base_class(self):
        for name in TOLD:
            with self.subTest(name=name):
                self.assertEqual(getattr(errors, name).__bases__, (errors.AnylengthError,))
                self.assertEqual(getattr(errors, name).__module__, "anylength.errors")

    def test_there_is_no_other_class(self):
        below = {one.__name__ for one in errors.AnylengthError.__subclasses__()}
        self.assertEqual(below, set(TOLD))

    def test_the_attribute_is_set_when_the_object_is_created(self):
        for name, attribute in TOLD.items():
            if attribute is None:
                continue
            for worth in (0, 3, "k0"):
                with self.subTest(name=name, worth=worth):
                    error = getattr(errors, name)(worth)
                    self.assertEqual(vars(error), {attribute: worth})

    def test_the_others_are_created_without_anything(self):
        for name, attribute in TOLD.items():
            if attribute is None:
                with self.subTest(name=name):
                    self.assertEqual(vars(getattr(errors, name)()), {})

    def test_they_are_raised_and_caught(self):
        for name, attribute in TOLD.items():
            for caught in (ValueError, errors.AnylengthError, getattr(errors, name)):
                with self.subTest(name=name, caught=caught), self.assertRaises(caught):
                    raise getattr(errors, name)(*(() if attribute is None else (1,)))

    def test_one_is_not_caught_as_another(self):
        self.assertNotIsInstance(errors.TooWide(1), errors.TooLong)
        self.assertNotIsInstance(errors.NoBody(1), errors.NoContract)


if __name__ == "__main__":
    unittest.main()
