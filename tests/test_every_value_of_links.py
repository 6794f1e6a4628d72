"""Point 3, and the judges of chains, refutations and tournaments: True or False for every value, and no error."""

import unittest

from kepttogether.chains import accepts_chain, accepts_refutation, refutation, shortest
from kepttogether.tournaments import is_tournament
from judging import JudgeChecks
from support import all_tournaments, ends, is_chain_by_words, is_right_chain, is_tournament_by_words, nested

THREE = (3, ((0, 1), (1, 2), (0, 2)))
FOUR = (4, ((0, 1), (1, 2), (2, 3), (0, 3)))
ROUND = ((0, 1), ((1, (0, 2)), (0, (1, 2)), (2, (1, 0))))


def is_refutation(system, value):
    return is_right_chain(system, value) and ends(value)[1] == value[0][::-1]


class EveryValue(JudgeChecks, unittest.TestCase):
    def test_accepts_chain(self):
        for system, pair, other, good in [
            (THREE, (0, 1), (1, 0), [ROUND, refutation(THREE)]),
            (THREE, (0, 1), (1, 2), [((0, 1), ROUND[1][:2]), shortest(THREE, (0, 1), (1, 2))]),
            (FOUR, (0, 1), (0, 1), [((0, 1), ()), ((0, 1), ((1, (0, 2)), (1, (0, 1))))]),
            ((2, ()), (0, 1), (0, 1), [((0, 1), ())]),
            ((2, ()), (0, 1), (1, 0), []),
        ]:
            self.check_all(
                lambda value: accepts_chain(system, pair, other, value),
                lambda value: is_right_chain(system, value) and ends(value) == (pair, other),
                good,
            )

    def test_accepts_refutation(self):
        for system, good in [
            (THREE, [ROUND, refutation(THREE)]), (FOUR, [refutation(FOUR)]), ((3, THREE[1][:2]), []), ((1, ()), []),
        ]:
            self.check_all(
                lambda value: accepts_refutation(system, value), lambda value: is_refutation(system, value), good,
            )

    def test_is_tournament(self):
        for size in (1, 2, 3, 8):
            good = all_tournaments(size) if size < 4 else [tuple((x, y) for x in range(8) for y in range(x + 1, 8))]
            self.check_all(
                lambda value: is_tournament(size, value), lambda value: is_tournament_by_words(size, value), good,
            )

    def test_values_that_are_nested_too_deeply_to_be_looked_through(self):
        deep = nested(20000)
        values = [deep, [deep], (deep, ()), ((0, 1), deep), ((0, 1), (deep,)), ((0, 1), ((0, deep),))]
        values += [((0, 1), ((deep, (0, 2)),)), ((0, deep), ()), (deep, deep), ((deep, 1),), (deep, deep, deep)]
        for value in values:
            self.assertIs(accepts_chain(THREE, (0, 1), (1, 0), value), False)
            self.assertIs(accepts_refutation(THREE, value), False)
            for size in (1, 2, 3):
                self.assertIs(is_tournament(size, value), False)

    def test_true_and_false_are_not_integers(self):
        self.assertIs(accepts_refutation(THREE, ((False, 1), ROUND[1])), False)
        self.assertIs(accepts_refutation(THREE, ((0, 1), ((True, (0, 2)),) + ROUND[1][1:])), False)
        self.assertIs(accepts_refutation(THREE, ((0, 1), ROUND[1][:2] + ((2, (True, 0)),))), False)
        self.assertIs(accepts_chain(THREE, (0, 1), (1, 0), ((0, True), ROUND[1])), False)
        self.assertIs(is_tournament(2, ((False, True),)), False)

    def test_long_values(self):
        many = tuple((0, (0, 1 + place % 2)) for place in range(10 ** 5))
        self.assertIs(accepts_chain(THREE, (0, 1), (0, 2), ((0, 1), many)), False)
        self.assertIs(accepts_refutation(THREE, ((0, 1), many)), False)
        self.assertIs(is_tournament(8, tuple(pair for _, pair in many)), False)


class TheWordsAsCode(unittest.TestCase):
    """The references of this file are worth something only if they tell right from wrong themselves."""

    def test_references(self):
        self.assertIs(is_chain_by_words(THREE, ROUND), True)
        self.assertIs(is_chain_by_words(THREE, ((0, 1), ((True, (0, 2)),))), False)
        self.assertIs(is_right_chain(THREE, ROUND), True)
        self.assertIs(is_right_chain(THREE, ((0, 1), ((0, (0, 2)),))), False)
        self.assertIs(is_refutation(THREE, ROUND), True)
        self.assertIs(is_refutation(THREE, ((0, 1), ROUND[1][:2])), False)
        self.assertIs(is_tournament_by_words(3, ((0, 1), (1, 2), (2, 0))), True)
        self.assertIs(is_tournament_by_words(3, ((0, 1), (1, 0), (2, 0))), False)


if __name__ == "__main__":
    unittest.main()
