"""[2] kinds of values."""

import unittest

from helpers import JUNK
from widefills.basics import is_count, is_integer


class Basics(unittest.TestCase):

    def test_integers(self):
        for value in (0, 1, -1, 60, 10 ** 30, -10 ** 30):
            self.assertIs(is_integer(value), True)
            self.assertIs(is_integer(value=value), True)

    def test_counts(self):
        for value in (0, 1, 60, 10 ** 30):
            self.assertIs(is_count(value), True)
            self.assertIs(is_count(value=value), True)
        for value in (-1, -10 ** 30):
            self.assertIs(is_count(value), False)

    def test_other_kinds(self):
        for value in JUNK + ("", "1", [], (), [1], (1,)):
            wanted = value in (-1, 10 ** 30) if isinstance(value, int) else False
            self.assertIs(is_integer(value), wanted, value)
            self.assertIs(is_count(value), wanted and value > 0, value)


if __name__ == "__main__":
    unittest.main()
