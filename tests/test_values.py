"""What an integer and a number is."""

import unittest

from standasked.values import is_between, is_integer, is_number, is_row
from tests.samples import NO_NUMBERS


class ValuesTest(unittest.TestCase):
    def test_integers(self):
        for thing in (0, 1, -1, 65535, 65536, 10 ** 20, -(10 ** 20)):
            self.assertIs(is_integer(thing), True)
        for thing in (True, False, None, "", "1", (), (1,), [], [1], {}, {1: 1}):
            self.assertIs(is_integer(thing), False)

    def test_numbers_from_0_to_65535(self):
        for thing in (0, 1, 65534, 65535):
            self.assertIs(is_number(thing), True)
        for thing in NO_NUMBERS:
            self.assertIs(is_number(thing), False)

    def test_numbers_between_two(self):
        for thing in range(-2, 9):
            self.assertIs(is_between(thing, 2, 5), thing in (2, 3, 4, 5))
        for thing in NO_NUMBERS:
            self.assertIs(is_between(thing, 0, 65535), False)

    def test_nothing_is_between_0_and_less(self):
        for thing in NO_NUMBERS + [0, 1]:
            self.assertIs(is_between(thing, 0, -1), False)

    def test_rows_are_tuples(self):
        self.assertIs(is_row((), 0), True)
        self.assertIs(is_row((1, None), 2), True)
        for thing in ((), (1,), (1, 2, 3), [1, 2], "ab", {1: 1, 2: 2}, None, 2, True):
            self.assertIs(is_row(thing, 2), False)
