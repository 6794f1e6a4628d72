"""The checks that several modules make, each by itself (points 3, 5 and 6)."""

import unittest

from kepttogether.checks import are_below, demand, is_ascending, is_integer, is_pair, is_tuple_of
from kepttogether.errors import BadValue
from support import values_of_all_kinds


class Checks(unittest.TestCase):
    def test_demand(self):
        self.assertIsNone(demand(True, "row"))
        with self.assertRaises(BadValue) as caught:
            demand(False, "row")
        self.assertEqual(caught.exception.name, "row")

    def test_is_integer(self):
        for value in values_of_all_kinds():
            self.assertIs(is_integer(value, 0, 2), type(value) is int and 0 <= value <= 2, value)

    def test_is_tuple_of(self):
        for value in values_of_all_kinds():
            self.assertIs(is_tuple_of(value, 2), type(value) is tuple and len(value) == 2, value)

    def test_are_below(self):
        self.assertIs(are_below((), 0), True)
        self.assertIs(are_below((2, 0, 2), 3), True)
        for value in (3, -1, True, "1", None, (1,)):
            self.assertIs(are_below((0, value), 3), False, value)

    def test_is_ascending(self):
        for value in [(), (0,), (2,), (0, 2), (0, 1, 2)]:
            self.assertIs(is_ascending(value, 3), True, value)
        for value in [(3,), (1, 0), (1, 1), (-1, 0), (0, 1, 2, 3), (True,), (0, True), [0], "01", None, 0]:
            self.assertIs(is_ascending(value, 3), False, value)

    def test_is_pair(self):
        for value in [(0, 1), (1, 0), (0, 2)]:
            self.assertIs(is_pair(value, 3), True, value)
        for value in [(0, 0), (0, 3), (-1, 0), (0,), (0, 1, 2), [0, 1], (False, 1), (0, True), "01", None, 0]:
            self.assertIs(is_pair(value, 3), False, value)


if __name__ == "__main__":
    unittest.main()
