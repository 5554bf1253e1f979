"""[2]: INTEGERS and COUNTS."""

import unittest

from helpers import LETTER, STRANGE
from innerfractions.basics import is_count, is_integer
from innerfractions.ratios import Ratio

OTHERS = [
    True, False, None, "1", "", b"1", b"", [1], [], (1,), (), {}, {1: 1}, Ratio(1), Ratio(3, 2), LETTER, STRANGE,
    object(), int, len,
]


class Integers(unittest.TestCase):
    def test_integers(self):
        for value in (0, 1, -1, 25, 10 ** 40, -10 ** 40):
            self.assertIs(is_integer(value), True)
            self.assertIs(is_integer(value=value), True)

    def test_none(self):
        for value in OTHERS:
            self.assertIs(is_integer(value), False, value)


class Counts(unittest.TestCase):
    def test_counts(self):
        for value in (0, 1, 2, 10 ** 40):
            self.assertIs(is_count(value), True)
            self.assertIs(is_count(value=value), True)

    def test_none(self):
        for value in [-1, -10 ** 40] + OTHERS:
            self.assertIs(is_count(value), False, value)


if __name__ == "__main__":
    unittest.main()
