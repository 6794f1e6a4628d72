"""Points 7, 17 and 28: which arguments are refused, with which name, and that nothing else is."""

import unittest

from kepttogether.sides import (
    circle, contradiction, is_sides, required, respects, shows_circle, shows_contradiction, sides_of,
)
from kepttogether.systems import (
    derived, gaps, keeps, overlap, part, part_of_row, renamed, renamed_row, spans, together,
)
from refusing import (
    A_ROW, A_ROW_OF_4, ANY_VALUE, NOT_KEEPING, ROW, SIDES, SYSTEM, THE_SIDES, THE_SYSTEM, WRONG_MEMBERS_OF_4,
    WRONG_ROWS_OF_4, WRONG_SETS, RefusalChecks,
)

FUNCTIONS = [
    (spans, THE_SYSTEM, A_ROW_OF_4),
    (gaps, THE_SYSTEM, A_ROW_OF_4),
    (together, THE_SYSTEM, A_ROW_OF_4),
    (keeps, THE_SYSTEM, A_ROW_OF_4),
    (overlap, ("first", (0, 1), WRONG_SETS), ("second", (1, 2), WRONG_SETS)),
    (derived, THE_SYSTEM),
    (part, THE_SYSTEM, ("members", (0, 2), WRONG_MEMBERS_OF_4)),
    (part_of_row, A_ROW, ("members", (0, 2), WRONG_MEMBERS_OF_4)),
    (renamed, THE_SYSTEM, ("order", (1, 2, 3, 0), WRONG_ROWS_OF_4)),
    (renamed_row, A_ROW, ("order", (1, 2, 3, 0), WRONG_ROWS_OF_4)),
    (is_sides, THE_SYSTEM, ANY_VALUE),
    (required, THE_SYSTEM, THE_SIDES),
    (contradiction, THE_SYSTEM, THE_SIDES),
    (circle, THE_SYSTEM, THE_SIDES),
    (respects, THE_SYSTEM, THE_SIDES, A_ROW_OF_4),
    (sides_of, THE_SYSTEM, ("row", ROW, WRONG_ROWS_OF_4 + NOT_KEEPING)),
    (shows_contradiction, THE_SYSTEM, THE_SIDES, ANY_VALUE),
    (shows_circle, THE_SYSTEM, THE_SIDES, ANY_VALUE),
]


class Refusals(RefusalChecks, unittest.TestCase):
    functions = FUNCTIONS

    def test_a_row_that_does_not_keep_the_system_is_refused_by_sides_of_alone(self):
        for row in NOT_KEEPING:
            self.check_refused(sides_of, [SYSTEM, row], "row")
            self.assertIs(keeps(SYSTEM, row), False)
            self.assertIs(respects(SYSTEM, SIDES, row), False)

    def test_rows_and_members_of_1_and_8(self):
        long = tuple(range(8))
        self.assertEqual(part_of_row((0,), (0,)), (0,))
        self.assertEqual(renamed_row((0,), (0,)), (0,))
        self.assertEqual(part_of_row(long, long), long)
        self.assertEqual(renamed_row(long, long[::-1]), long[::-1])
        self.check_refused(part_of_row, [long + (8,), (0,)], "row")
        self.check_refused(renamed_row, [long + (8,), long + (8,)], "row")
        self.check_refused(part_of_row, [(0, 1), (2,)], "members")
        self.check_refused(renamed_row, [(0, 1), (0,)], "order")

    def test_sets_up_to_element_7(self):
        self.assertIs(overlap((), ()), False)
        self.assertIs(overlap(tuple(range(8)), (7,)), False)


if __name__ == "__main__":
    unittest.main()
