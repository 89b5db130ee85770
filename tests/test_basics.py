"""selfprint.basics: [2]."""

import unittest

from helper import ODD, Checks
from selfprint.basics import is_count, is_integer, is_list


class Basics(Checks):
    def test_integers(self):
        for value in (0, 1, -1, 5, 10 ** 30, -10 ** 30):
            self.check(True, is_integer, value=value)
        for value in (True, False, None, "1", "", b"1", (), [], (1,), [1], {}, {1: 1}, object(), int, int("1") == 1):
            self.check(False, is_integer, value=value)

    def test_counts(self):
        for value in (0, 1, 299, 1000001, 10 ** 30):
            self.check(True, is_count, value=value)
        for value in (-1, -10 ** 30, True, False, None, "0", [0], (0,), {}, object()):
            self.check(False, is_count, value=value)

    def test_lists(self):
        for value in ([], [1], (), (1, 2), [[]], ((),), [True]):
            self.check(True, is_list, value=value)
        for value in (None, True, False, 0, "", "ab", b"", {}, {1: 2}, set(), frozenset(), object(), list, range(3)):
            self.check(False, is_list, value=value)

    def test_a_bool_for_any_value(self):
        for function in (is_integer, is_count, is_list):
            for value in ODD:
                self.assertIs(type(function(value)), bool)


if __name__ == "__main__":
    unittest.main()
