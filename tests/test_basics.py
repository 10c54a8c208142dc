"""Kinds of values [2]."""

import unittest

from flippedpoints.basics import is_count, is_integer, is_number
from tests.support import HUGE, LISTS, PAIR, STRANGE


class BasicTests(unittest.TestCase):

    def assert_told(self, value, integer, count, number):
        told = [is_integer(value), is_count(value), is_number(value)]
        with self.subTest(value=value):
            self.assertEqual(told, [integer, count, number])
            self.assertTrue(all(isinstance(one, bool) for one in told))

    def test_integers_by_their_size(self):
        for value in (0, 1, 9, 10 ** 29, HUGE - 1):
            self.assert_told(value, True, True, True)
        for value in (HUGE, HUGE + 1, 10 ** 39):
            self.assert_told(value, True, True, False)
        for value in (-1, -HUGE, -10 ** 39, 1 - HUGE):
            self.assert_told(value, True, False, False)

    def test_values_of_other_kinds(self):
        for value in STRANGE + LISTS + [PAIR]:
            self.assert_told(value, False, False, False)

    def test_by_name(self):
        self.assertEqual([is_integer(value=-1), is_count(value=0), is_number(value=HUGE)], [True, True, False])


if __name__ == "__main__":
    unittest.main()
