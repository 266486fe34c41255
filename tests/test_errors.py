"""The errors: their fields and their bases."""

import unittest

from soundtill import errors
from soundtill.errors import TillError

FIELDS = {
    "BadName": ["name"], "BadMoment": ["moment"], "BadSaying": ["value"], "BadPoint": ["value"], "BadRow": ["at"],
    "BadTurn": ["at"], "BadTurns": ["at"], "NoTool": ["tool"], "NoRow": ["number"], "NoDeed": ["number"],
    "NoRecord": ["name"], "NoLot": ["name"], "NoLife": ["value"], "NoEvidence": ["word"], "TooMany": ["what", "most"],
    "Later": ["moment"], "Clash": ["name"], "Unlike": ["tool"], "Contradicted": ["number"], "BadChain": ["at"],
    "BadEntry": ["at"], "BadText": ["line", "word"], "NoLine": [],
}


class Errors(unittest.TestCase):
    def test_fields_by_position_and_by_name(self):
        for name, fields in FIELDS.items():
            made = getattr(errors, name)
            values = [[name, {"x": 1}], (None, True)][:len(fields)]
            for error in (made(*values), made(**dict(zip(fields, values)))):
                self.assertEqual(list(vars(error)), fields)
                for field, value in zip(fields, values):
                    self.assertIs(getattr(error, field), value)

    def test_each_stands_directly_below_the_base(self):
        self.assertEqual(TillError.__bases__, (ValueError,))
        for name in FIELDS:
            self.assertEqual(getattr(errors, name).__bases__, (TillError,))

    def test_each_can_be_raised_and_caught(self):
        for name, fields in FIELDS.items():
            made = getattr(errors, name)
            with self.assertRaises(made):
                raise made(*fields)
            with self.assertRaises(TillError):
                raise made(*fields)
            with self.assertRaises(ValueError):
                raise made(*fields)

    def test_no_other_errors(self):
        classes = [name for name, thing in vars(errors).items() if isinstance(thing, type)]
        self.assertEqual(sorted(classes), sorted([*FIELDS, "TillError"]))


if __name__ == "__main__":
    unittest.main()
