"""What the tests share: a case that looks at errors closely, and values of many kinds."""

import unittest

from soundtill.errors import TillError
from soundtill.lives import Lives
from soundtill.rows import Agreed, Trusted
from soundtill.sayings import Saying

TOP = 10 ** 30

# No value here is a name, a moment, a bool or None; the tests add those that fit.
STRANGE = [
    -1, TOP + 1, 10 ** 60 - 1, -(10 ** 60) + 1, "", " ", "A", "1", "a b", "a\n", "sound", "x" * 2000, (), ("a",),
    ("a", 0), ("a", False), ("a", 0, True), [], ["a", 0], [[]], {}, {"a": 0}, {("a", 0): None}, ((((), []), {}), "q"),
    Saying("a", 0, True), Lives({"a": []}), Trusted("a"), Agreed("a", 3, "b", 9),
]


class Case(unittest.TestCase):
    """A test case that knows the errors of the package."""

    def refused(self, call, error, *fields):
        """The call raises just this error, with just these fields."""
        try:
            answer = call()
        except TillError as raised:
            self.assertIs(type(raised), error)
            found = list(vars(raised).values())
            self.assertEqual(len(found), len(fields))
            for one, other in zip(found, fields):
                self.assertIs(type(one), type(other))
                self.assertEqual(one, other)
        else:
            self.fail(f"no error, but {answer!r}")

    def same(self, one, other):
        """Equal, and of the same class; == and != agree, in both directions."""
        self.assertIs(type(one), type(other))
        self.assertIs(one == other, True)
        self.assertIs(other == one, True)
        self.assertIs(one != other, False)

    def unlike(self, one, other):
        """Not equal, in both directions."""
        self.assertIs(one == other, False)
        self.assertIs(other == one, False)
        self.assertIs(one != other, True)
