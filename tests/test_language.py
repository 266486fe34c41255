"""The package keeps to its subset of Python, as far as language.py can see."""

import unittest

import language


class Language(unittest.TestCase):
    def test_each_check(self):
        for check in language.CHECKS:
            with self.subTest(check.__name__):
                self.assertEqual(list(check()), [])


if __name__ == "__main__":
    unittest.main()
