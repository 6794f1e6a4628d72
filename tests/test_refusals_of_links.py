"""Points 7, 28, 39, 49 and 61: which arguments the functions of links, chains and tournaments refuse."""

import unittest

from kepttogether.chains import (
    accepts_chain, accepts_refutation, end_of, fault, joined, mirrored, refutation, shortened, shortest, turned,
)
from kepttogether.deciding import tournament_of
from kepttogether.links import (
    are_linked, class_of, contradictory_pair, count_sides, is_contradictory, listed_classes, steps_from,
)
from kepttogether.tournaments import components, is_closed, is_tournament, row_of, smallest_closed
from refusing import (
    A_CHAIN, A_PAIR, ANOTHER_PAIR, ANY_VALUE, CHAIN, NO_TUPLES, THE_SIDES, THE_SYSTEM, WRONG_CHAINS, WRONG_MEMBERS_OF_4,
    RefusalChecks,
)

SECOND = ((3, 1), ((0, (0, 1)),))
NOT_JOINED = [CHAIN, ((1, 3), SECOND[1]), ((0, 1), ()), ((0, 2), ()), (SECOND[1][0][1], ())]
WRONG_SIZES = [None, True, False, 0, 9, -1, 10 ** 30, "", "4", (), (4,), [], [4], (1, 2)]
TOURNAMENT = ((0, 1), (1, 2), (1, 3), (2, 0), (2, 3), (3, 0))
WRONG_TOURNAMENTS = NO_TUPLES + [
    (), ((0, 1),), TOURNAMENT[:5], TOURNAMENT[1:], TOURNAMENT + ((4, 0),), TOURNAMENT[::-1], list(TOURNAMENT),
    TOURNAMENT[:5] + ((3, 4),), TOURNAMENT[:5] + ((3, 3),), TOURNAMENT[:5] + ((3, 2),), TOURNAMENT[:5] + ([3, 0],),
    TOURNAMENT[:5] + (TOURNAMENT[4],), TOURNAMENT[:5] + ((3, False),), TOURNAMENT[:5] + ((3, "0"),),
    TOURNAMENT[:5] + (None,), TOURNAMENT[:5] + (3,), TOURNAMENT[:5] + ((3, 0, 1),), ((-1, 0),) + TOURNAMENT[1:],
    ((0, True),) + TOURNAMENT[1:], TOURNAMENT[:1] + ((1, 0),) + TOURNAMENT[2:], TOURNAMENT[1:2] + TOURNAMENT[:1]
    + TOURNAMENT[2:], (TOURNAMENT,), ((0, 1), (0, 2), (1, 2)),
]
WRONG_CHOSEN_OF_4 = [value for value in WRONG_MEMBERS_OF_4 if value != ()]

THE_SIZE = ("size", 4, WRONG_SIZES)
THE_TOURNAMENT = ("tournament", TOURNAMENT, WRONG_TOURNAMENTS)
CHOSEN = ("chosen", (0, 2), WRONG_CHOSEN_OF_4)

FUNCTIONS = [
    (tournament_of, THE_SYSTEM, THE_SIDES),
    (steps_from, THE_SYSTEM, A_PAIR),
    (class_of, THE_SYSTEM, A_PAIR),
    (are_linked, THE_SYSTEM, A_PAIR, ANOTHER_PAIR),
    (contradictory_pair, THE_SYSTEM),
    (is_contradictory, THE_SYSTEM),
    (listed_classes, THE_SYSTEM),
    (count_sides, THE_SYSTEM),
    (fault, THE_SYSTEM, A_CHAIN),
    (end_of, THE_SYSTEM, A_CHAIN),
    (accepts_chain, THE_SYSTEM, A_PAIR, ANOTHER_PAIR, ANY_VALUE),
    (accepts_refutation, THE_SYSTEM, ANY_VALUE),
    (shortest, THE_SYSTEM, A_PAIR, ANOTHER_PAIR),
    (refutation, THE_SYSTEM),
    (turned, THE_SYSTEM, A_CHAIN),
    (mirrored, THE_SYSTEM, A_CHAIN),
    (joined, THE_SYSTEM, ("first", CHAIN, WRONG_CHAINS), ("second", SECOND, WRONG_CHAINS + NOT_JOINED)),
    (shortened, THE_SYSTEM, A_CHAIN),
    (is_tournament, THE_SIZE, ANY_VALUE),
    (is_closed, THE_SIZE, THE_TOURNAMENT, CHOSEN),
    (smallest_closed, THE_SIZE, THE_TOURNAMENT, CHOSEN),
    (components, THE_SIZE, THE_TOURNAMENT),
    (row_of, THE_SIZE, THE_TOURNAMENT),
]


class Refusals(RefusalChecks, unittest.TestCase):
    functions = FUNCTIONS

    def test_a_system_with_one_element_has_no_pair(self):
        system = (1, ((0,), ()))
        for pair in [(0, 0), (0, 1), (), (0,)]:
            for function in (steps_from, class_of):
                self.check_refused(function, [system, pair], "pair")
            for function in (are_linked, shortest):
                self.check_refused(function, [system, pair, pair], "pair")
            self.check_refused(accepts_chain, [system, pair, pair, (pair, ())], "pair")
            for function in (fault, end_of, turned, mirrored, shortened):
                self.check_refused(function, [system, (pair, ())], "chain")
            self.check_refused(joined, [system, (pair, ()), (pair, ())], "first")
        self.assertIs(accepts_refutation(system, ((0, 0), ())), False)

    def test_a_system_without_sets_has_no_step(self):
        for function in (fault, end_of, turned, mirrored, shortened):
            self.check_refused(function, [(4, ()), ((0, 1), ((0, (0, 2)),))], "chain")
            function((4, ()), ((0, 1), ()))

    def test_the_eighth_set_and_the_eighth_element(self):
        system = (8, ((),) * 7 + ((6, 7),))
        self.assertIsNone(fault(system, ((0, 6), ((7, (0, 7)),))))
        self.check_refused(fault, [system, ((0, 6), ((8, (0, 7)),))], "chain")
        self.check_refused(fault, [system, ((0, 6), ((7, (0, 8)),))], "chain")
        self.check_refused(fault, [(8, system[1][1:]), ((0, 6), ((7, (0, 7)),))], "chain")

    def test_chains_that_are_not_right_are_chains(self):
        for steps in [((0, (0, 2)),), ((0, (2, 0)),), ((1, (3, 2)),), ((0, (0, 3)),)]:
            self.assertIsNotNone(fault((4, ((0, 1), (1, 2))), ((0, 2), steps)))
            self.assertEqual(shortened((4, ((0, 1), (1, 2))), ((0, 2), steps))[0], (0, 2))

    def test_sizes_1_and_8(self):
        self.assertIs(is_closed(1, (), ()), True)
        self.assertEqual(smallest_closed(1, (), (0,)), (0,))
        up = tuple((x, y) for x in range(8) for y in range(x + 1, 8))
        self.assertIs(is_closed(8, up, tuple(range(8))), True)
        self.check_refused(is_closed, [8, up, tuple(range(9))], "chosen")
        self.check_refused(is_closed, [1, (), (1,)], "chosen")
        self.check_refused(row_of, [9, up], "size")
        self.check_refused(row_of, [7, up], "tournament")
        self.check_refused(components, [1, up], "tournament")
        self.check_refused(is_tournament, [9, up], "size")


if __name__ == "__main__":
    unittest.main()
