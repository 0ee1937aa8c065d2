"""[3], [5]: the errors and their attributes."""

import unittest

from refpack import errors

ATTRIBUTES = {
    "UnknownColumn": {"name": "Zip"},
    "CircularReferences": {},
    "BadSection": {"row": 3},
    "WrongCell": {"column": "city"},
    "HasLabels": {"column": "city"},
    "BadFile": {"place": 15, "reason": "end"},
    "BadValues": {"column": "a", "row": 0},
    "NoRow": {"row": -7},
    "TooManyRows": {},
    "NothingToUndo": {},
}


class ErrorTests(unittest.TestCase):

    def made(self, name):
        return getattr(errors, name)(*ATTRIBUTES[name].values())

    def test_base_class(self):
        self.assertTrue(issubclass(errors.PackError, ValueError))
        self.assertEqual(errors.PackError.__module__, "refpack.errors")

    def test_each_error_is_a_pack_error_and_no_other_one(self):
        for name in ATTRIBUTES:
            error = getattr(errors, name)
            self.assertEqual(error.__module__, "refpack.errors")
            self.assertTrue(issubclass(error, errors.PackError), name)
            for other in ATTRIBUTES:
                if other != name:
                    self.assertFalse(issubclass(error, getattr(errors, other)), (name, other))

    def test_attributes_from_the_creation_on(self):
        for name, attributes in ATTRIBUTES.items():
            error = self.made(name)
            for attribute, value in attributes.items():
                self.assertEqual(getattr(error, attribute), value, (name, attribute))

    def test_row_can_be_none(self):
        self.assertIsNone(errors.BadSection(None).row)
        error = errors.BadValues("b", None)
        self.assertEqual((error.column, error.row), ("b", None))

    def test_each_error_can_be_raised_and_shown(self):
        for name in ATTRIBUTES:
            with self.assertRaises(errors.PackError) as caught:
                raise self.made(name)
            self.assertIsInstance(str(caught.exception), str)
        self.assertIn("Zip", str(errors.UnknownColumn("Zip")))


if __name__ == "__main__":
    unittest.main()
