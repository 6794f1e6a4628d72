"""Point 3 and the functions that take every value: the answer is True or False, and no error."""

import unittest

from kepttogether.sides import contradiction, circle, is_sides, shows_circle, shows_contradiction
from kepttogether.systems import is_row, is_system
from judging import JudgeChecks
from support import (
    EDGE_SYSTEMS, LARGE_SYSTEMS, is_number, is_row_by_words, is_sides_by_words, is_system_by_words, nested, pairs,
    set_requires, sets_requiring,
)

ROUND = (3, ((0,), (1,), (2,)))
ROUND_ABOUT = ((0, -1, 1), (1, 0, -1), (-1, 1, 0))
AGAINST = ((0, -1, 1), (1, 0, -1), (1, 1, 0))


def shows_contradiction_by_words(system, sides, value):
    if type(value) is not tuple or len(value) != 3:
        return False
    pair, ahead, behind = value
    if type(pair) is not tuple or len(pair) != 2 or not all(is_number(x, 0, system[0] - 1) for x in pair):
        return False
    if pair[0] == pair[1] or not all(is_number(at, 0, len(system[1]) - 1) for at in (ahead, behind)):
        return False
    return ahead in sets_requiring(system, sides, pair) and behind in sets_requiring(system, sides, pair[::-1])


def shows_circle_by_words(system, sides, value):
    if type(value) is not tuple or len(value) != 3 or not all(is_number(x, 0, system[0] - 1) for x in value):
        return False
    x, y, z = value
    return all(
        pair in pairs(system[0]) and sets_requiring(system, sides, pair) != [] for pair in ((x, y), (y, z), (z, x))
    )


class EveryValue(JudgeChecks, unittest.TestCase):
    def test_is_system(self):
        self.check_all(is_system, is_system_by_words, EDGE_SYSTEMS + LARGE_SYSTEMS[:6])

    def test_is_row(self):
        for row in [(0,), (1, 0), (2, 0, 1), (3, 1, 2, 0), (7, 6, 5, 4, 3, 2, 1, 0)]:
            self.check_all(
                lambda value: is_row(value, len(row)), lambda value: is_row_by_words(value, len(row)), [row],
            )

    def test_is_sides(self):
        for system, sides in [
            ((1, ()), ()), ((1, ((0,),)), ((0,),)), (ROUND, ROUND_ABOUT), (ROUND, AGAINST),
            ((4, ((2, 3), ())), ((-1, 1, 0, 0), (0, 0, 0, 0))), ((2, ((0,),) * 8), ((0, 1), (0, -1)) * 4),
        ]:
            self.check_all(
                lambda value: is_sides(system, value), lambda value: is_sides_by_words(system, value), [sides],
            )

    def test_shows_contradiction(self):
        self.check_all(
            lambda value: shows_contradiction(ROUND, AGAINST, value),
            lambda value: shows_contradiction_by_words(ROUND, AGAINST, value),
            [((0, 2), 2, 0), ((2, 0), 0, 2), contradiction(ROUND, AGAINST)],
        )
        self.check_all(
            lambda value: shows_contradiction((1, ()), (), value), lambda value: False, [],
        )

    def test_shows_circle(self):
        self.check_all(
            lambda value: shows_circle(ROUND, ROUND_ABOUT, value),
            lambda value: shows_circle_by_words(ROUND, ROUND_ABOUT, value),
            [(0, 1, 2), (1, 2, 0), (2, 0, 1), circle(ROUND, ROUND_ABOUT)],
        )
        self.check_all(lambda value: shows_circle((1, ()), (), value), lambda value: False, [])

    def test_values_that_are_nested_too_deeply_to_be_looked_through(self):
        deep = nested(20000)
        for value in [deep, [deep], (1, deep), (1, (deep,)), (deep, deep, deep), (deep, 0, 1)]:
            self.assertIs(is_system(value), False)
            self.assertIs(is_row(value, len(value)), False)
            self.assertIs(is_sides(ROUND, value), False)
            self.assertIs(shows_contradiction(ROUND, AGAINST, value), False)
            self.assertIs(shows_circle(ROUND, ROUND_ABOUT, value), False)

    def test_true_and_false_are_not_integers(self):
        self.assertIs(is_system((True, ())), False)
        self.assertIs(is_system((2, ((False, True),))), False)
        self.assertIs(is_row((False, True), 2), False)
        self.assertIs(is_sides((2, ((0,),)), ((False, True),)), False)
        self.assertIs(is_sides((2, ((0,),)), ((0, True),)), False)
        self.assertIs(shows_circle(ROUND, ROUND_ABOUT, (False, True, 2)), False)
        self.assertIs(shows_contradiction(ROUND, AGAINST, ((False, 2), 2, 0)), False)
        self.assertIs(shows_contradiction(ROUND, AGAINST, ((0, 2), 2, False)), False)


class TheWordsAsCode(unittest.TestCase):
    """The references of this file are worth something only if they tell right from wrong themselves."""

    def test_references(self):
        self.assertIs(is_system_by_words((1, ())), True)
        self.assertIs(is_system_by_words((True, ())), False)
        self.assertIs(is_row_by_words((1, 0), 2), True)
        self.assertIs(is_row_by_words((True, 0), 2), False)
        self.assertIs(set_requires((1,), (1, 0), (0, 1)), True)
        self.assertIs(set_requires((1,), (1, 0), (1, 0)), False)


if __name__ == "__main__":
    unittest.main()
