"""Points 7, 61, 72 and 80: which arguments the functions of solving, trees, reducing and listing refuse."""

import unittest

from kepttogether.listing import count_beginning, count_kept, index_of_kept, kept_rows, nth_kept
from kepttogether.reducing import accepts_tree, grounds_for, reduced, tree_of
from kepttogether.solving import accepts, row_of_sides, solve
from kepttogether.trees import canonical, count_rows, fits, is_row_of, is_tree, told_sets, tree_text
from refusing import (
    A_ROW_OF_4, ANY_VALUE, NO_TUPLES, SYSTEM, THE_SIDES, THE_SYSTEM, WRONG_MEMBERS_OF_4, RefusalChecks,
)

TREE = ("any", (3, ("turn", (0, 1, 2))))
NO_TREES = [value for value in NO_TUPLES if type(value) is not int or value != 0] + [
    (), (0,), ("any",), ("any", ()), ("any", (0,)), ("turn", (0, 1)), ("any", (0, 0)), ("any", (1, 2)), ("any", (0, 2)),
    ("any", [0, 1]), ["any", (0, 1)], ("any", (0, True)), ("any", (False, 1)), ("any", (0, "1")), ("any", (0, None)),
    ("all", (0, 1)), ("Any", (0, 1)), (0, 1), (None, (0, 1)), (("any",), (0, 1)), ("any", 0, 1), ("any", (0, 1), ()),
    ("any", (0, ("turn", (1, 2)))), ("any", (0, ("any", (1,)))), ("any", (0, ("any", (0, 1)))), ("any", (0, (1, 2))),
    ("any", (3, ["turn", (0, 1, 2)])), ("any", (3, ("turn", [0, 1, 2]))), ("turn", tuple(range(9))),
    ("any", tuple(range(1, 9))), ("any", (-1, 0, 1)), ("any", (0, 10 ** 30)), ("any", "01"), "any",
]
WRONG_CHOSEN_OF_4 = [value for value in WRONG_MEMBERS_OF_4 if value != ()]
WRONG_SIZES = [None, True, False, 0, 9, -1, 10 ** 30, "", "4", (), (4,), [], [4]]
WRONG_BEGINNINGS_OF_4 = NO_TUPLES + [
    (4,), (0, 4), (-1,), (0, 0), (0, 1, 0), (False,), (True,), (0, True), ("0",), (None,), ((0,),), ([0],), [0], [0, 1],
    (0, 1, 2, 3, 0), (0, 1, 2, 3, 4), (10 ** 30,), (0, (1, 2)),
]
NO_NUMBERS = [None, True, False, -1, -10 ** 30, 10 ** 30, "", "0", (), (0,), [], [0]]

A_TREE = ("tree", TREE, NO_TREES)
CHOSEN = ("chosen", (0, 2), WRONG_CHOSEN_OF_4)
BEGINNING = ("beginning", (3, 0), WRONG_BEGINNINGS_OF_4)
# Four rows keep the system.
INDEX = ("index", 3, NO_NUMBERS + [4, 5])
LIST_INDEX = ("index", 100000, NO_NUMBERS + [100001])
MANY = ("many", 20, NO_NUMBERS + [21])

FUNCTIONS = [
    (row_of_sides, THE_SYSTEM, THE_SIDES),
    (solve, THE_SYSTEM),
    (accepts, THE_SYSTEM, ("answer", None, [])),
    (is_tree, ANY_VALUE, ("size", 4, WRONG_SIZES)),
    (count_rows, A_TREE),
    (is_row_of, A_TREE, A_ROW_OF_4),
    (canonical, A_TREE),
    (fits, A_TREE, CHOSEN),
    (told_sets, A_TREE),
    (tree_text, A_TREE),
    (reduced, A_TREE, CHOSEN),
    (tree_of, THE_SYSTEM),
    (grounds_for, THE_SYSTEM),
    (accepts_tree, THE_SYSTEM, ("tree", None, []), ("grounds", None, [])),
    (count_kept, THE_SYSTEM),
    (count_beginning, THE_SYSTEM, BEGINNING),
    (nth_kept, THE_SYSTEM, INDEX),
    (index_of_kept, THE_SYSTEM, ANY_VALUE),
    (kept_rows, THE_SYSTEM, BEGINNING, LIST_INDEX, MANY),
]


class Refusals(RefusalChecks, unittest.TestCase):
    functions = FUNCTIONS

    def test_trees_of_1_and_8_elements(self):
        self.assertEqual(count_rows(0), 1)
        self.assertEqual(reduced(0, (0,)), 0)
        self.assertIs(is_row_of(0, (0,)), True)
        self.assertEqual(tree_text(("any", tuple(range(8)))), "(0 1 2 3 4 5 6 7)")
        for function in (count_rows, canonical, told_sets, tree_text):
            self.check_refused(function, [("any", tuple(range(9)))], "tree")
            self.check_refused(function, [1], "tree")
        self.check_refused(is_row_of, [0, (1,)], "row")
        self.check_refused(is_row_of, [("any", (0, 1)), (0, 1, 2)], "row")
        self.check_refused(is_row_of, [("any", tuple(range(8))), tuple(range(9))], "row")
        for function in (fits, reduced):
            self.check_refused(function, [0, (1,)], "chosen")
            self.check_refused(function, [("any", (0, 1, 2)), (3,)], "chosen")
            self.check_refused(function, [("any", (0, 1, 2)), (2, 0)], "chosen")
            self.assertIsNotNone(function(("any", tuple(range(8))), (0, 7)))

    def test_an_index_of_a_system_that_no_row_keeps(self):
        three = (3, ((0, 1), (1, 2), (0, 2)))
        for index in (0, 1, -1, None):
            self.check_refused(nth_kept, [three, index], "index")
        self.assertEqual(kept_rows(three, (), 0, 1), [])

    def test_an_index_at_its_limits(self):
        self.assertEqual(count_kept(SYSTEM), 4)
        self.assertEqual(nth_kept(SYSTEM, 0), (0, 1, 2, 3))
        self.assertEqual(nth_kept(SYSTEM, 3), (3, 2, 1, 0))
        self.check_refused(nth_kept, [SYSTEM, 4], "index")
        self.check_refused(nth_kept, [SYSTEM, -1], "index")
        self.check_refused(nth_kept, [(8, ()), 40320], "index")
        self.check_refused(nth_kept, [(1, ()), 1], "index")

    def test_limits_of_lists(self):
        self.assertEqual(kept_rows(SYSTEM, (), 100000, 0), [])
        self.assertEqual(len(kept_rows(SYSTEM, (), 0, 20)), 4)
        self.check_refused(kept_rows, [SYSTEM, (), 100001, 0], "index")
        self.check_refused(kept_rows, [SYSTEM, (), 0, 21], "many")
        self.check_refused(kept_rows, [SYSTEM, (), 100001, 21], "index")
        self.check_refused(kept_rows, [SYSTEM, (0, 0), 100001, 21], "beginning")

    def test_a_beginning_can_have_no_element_and_all(self):
        self.assertEqual(count_beginning(SYSTEM, ()), 4)
        self.assertEqual(count_beginning(SYSTEM, (3, 2, 1, 0)), 1)
        self.check_refused(count_beginning, [(1, ()), (1,)], "beginning")
        self.check_refused(count_beginning, [(8, ()), (8,)], "beginning")
        self.assertEqual(count_beginning((8, ()), (7,)), 5040)


if __name__ == "__main__":
    unittest.main()
