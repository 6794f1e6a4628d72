"""Points 63 to 66 and 69: trees, their rows, canonical trees, sets that fit, told sets, and texts."""

import unittest
from itertools import permutations
from random import Random

from kepttogether.trees import canonical, count_rows, fits, is_row_of, is_tree, told_sets, tree_text
from growing import (
    ALL_TREES, FEW_TREES, all_trees, canonical_by_rows, count_by_words, drawn_trees, fits_by_words, inner_parts,
    is_canonical_by_words, is_tree_by_words, leaves, rows_of, rows_together, stirred, told_by_words, trees_by_rows,
)
from support import rows, subsets

LARGE_TREES = [tree for size in (6, 7, 8) for tree in drawn_trees(size, 12, "large trees")]
DEEP = ("any", (0, ("turn", (1, ("any", (2, ("turn", (3, ("any", (4, 5)), 6)))), 7))))
NAMES_AND_BRACKETS = {"any": "()", "turn": "[]"}


def text_by_words(tree):
    if type(tree) is int:
        return str(tree)
    opening, closing = NAMES_AND_BRACKETS[tree[0]]
    return opening + " ".join(text_by_words(child) for child in tree[1]) + closing


class Forms(unittest.TestCase):
    """Point 63."""

    def test_trees(self):
        for tree in ALL_TREES + LARGE_TREES + [DEEP]:
            for size in range(1, 9):
                self.assertIs(is_tree(tree, size), size == len(leaves(tree)), (tree, size))
                self.assertIs(is_tree(tree, size), is_tree_by_words(tree, size))

    def test_an_element(self):
        self.assertIs(is_tree(0, 1), True)
        for value in (1, -1, True, False, None, "0", (0,), ("any", (0,)), ("any", 0), [0], ()):
            self.assertIs(is_tree(value, 1), False, value)

    def test_too_few_children(self):
        pair, three = ("any", (0, 1)), ("turn", (2, 0, 3))
        for value in [pair, ("any", (0, ("any", (1, 2)))), ("turn", (0, 1, 2)), ("any", (three, 1))]:
            self.assertIs(is_tree(value, len(leaves(value))), True)
        for value in [
            ("any", ()), ("turn", ()), ("any", (0,)), ("turn", (0,)), ("turn", (0, 1)), ("any", (0, ("turn", (1, 2)))),
            ("turn", (0, ("any", (1,)), 2)), ("any", (("any", (0, 1, 2)),)), ("turn", (("any", (0, 1)), 2)),
            ("any", (0, 1, ("any", ()))),
        ]:
            for size in range(1, 4):
                self.assertIs(is_tree(value, size), False, (value, size))

    def test_elements_that_are_missing_or_stand_twice(self):
        for value in [
            ("any", (0, 2)), ("any", (1, 2)), ("any", (0, 0)), ("any", (0, 1, 1)), ("any", (0, ("any", (0, 1)))),
            ("turn", (0, 1, 3)), ("turn", (0, 1, 0)), ("any", (0, 1, -1)), ("any", (0, 8)), ("any", (0, 10 ** 30)),
        ]:
            for size in range(1, 9):
                self.assertIs(is_tree(value, size), False, (value, size))

    def test_words_and_kinds(self):
        for value in [
            ("all", (0, 1)), ("ANY", (0, 1)), ("", (0, 1)), (None, (0, 1)), (True, (0, 1)), (("any",), (0, 1)),
            (["any"], (0, 1)), ["any", (0, 1)], ("any", [0, 1]), ("any", (0, 1), ()), ("any",), ("any", 0, 1),
            ("any", "01"), ("any", (0, "1")), ("any", (0, True)), ("any", (False, 1)), ("any", (0, None)),
            ("any", (0, (1,))), (0, 1), "any", ((0, 1), "any"), ("any", (0, [1])),
        ]:
            self.assertIs(is_tree(value, 2), False, value)


class Rows(unittest.TestCase):
    """Point 64."""

    def test_numbers_of_rows(self):
        for tree in ALL_TREES:
            self.assertEqual(count_rows(tree), len(rows_of(tree)), tree)
            self.assertEqual(count_rows(tree), len(set(rows_of(tree))), tree)
        for tree in LARGE_TREES + [DEEP]:
            self.assertEqual(count_rows(tree), count_by_words(tree), tree)

    def test_numbers_at_the_edges(self):
        self.assertEqual(count_rows(0), 1)
        self.assertEqual(count_rows(("any", tuple(range(8)))), 40320)
        self.assertEqual(count_rows(("turn", tuple(range(8)))), 2)
        self.assertEqual(count_rows(DEEP), 2 * 2 * 2 * 2 * 2)

    def test_rows(self):
        both = {True: 0, False: 0}
        for tree in ALL_TREES:
            there = set(rows_of(tree))
            for row in rows(len(leaves(tree))):
                self.assertIs(is_row_of(tree, row), row in there, (tree, row))
                both[row in there] += 1
        self.assertGreater(min(both.values()), 500)

    def test_rows_of_trees_in_whatever_order(self):
        draw = Random("rows in whatever order")
        for tree in drawn_trees(5, 20, "rows") + [stirred(tree, draw) for tree in all_trees(4)[::3]]:
            there = set(rows_of(tree))
            self.assertEqual(len(there), count_rows(tree))
            for row in rows(len(leaves(tree))):
                self.assertIs(is_row_of(tree, row), row in there, (tree, row))

    def test_rows_of_large_trees(self):
        for tree in [tree for tree in LARGE_TREES if count_by_words(tree) < 2000]:
            there = set(rows_of(tree))
            self.assertEqual(count_rows(tree), len(there))
            for row in list(there)[::7]:
                self.assertIs(is_row_of(tree, row), True)
                for at in range(len(row) - 1):
                    other = row[:at] + (row[at + 1], row[at]) + row[at + 2:]
                    self.assertIs(is_row_of(tree, other), other in there, (tree, other))

    def test_edges(self):
        self.assertIs(is_row_of(0, (0,)), True)
        self.assertEqual([row for row in rows(3) if is_row_of(("turn", (1, 0, 2)), row)], [(1, 0, 2), (2, 0, 1)])
        self.assertIs(is_row_of(("turn", (0, ("any", (1, 2)), 3)), (3, 1, 2, 0)), True)
        self.assertIs(is_row_of(("turn", (0, ("any", (1, 2)), 3)), (1, 2, 0, 3)), False)
        # Turning a part does not turn the parts within it.
        self.assertIs(is_row_of(("turn", (0, ("turn", (1, 2, 3)), 4)), (4, 1, 2, 3, 0)), True)


class Canonical(unittest.TestCase):
    """Point 65."""

    def test_the_canonical_tree_has_the_same_rows(self):
        draw = Random("canonical")
        trees = FEW_TREES + [tree for size in range(1, 6) for tree in drawn_trees(size, 20, "canonical")]
        for tree in trees + [stirred(tree, draw) for tree in FEW_TREES]:
            found = canonical(tree)
            self.assertEqual(found, canonical_by_rows(tree), tree)
            self.assertIs(is_canonical_by_words(found), True)
            self.assertEqual(rows_of(found), rows_of(tree))

    def test_trees_have_the_same_rows_if_their_canonical_trees_are_equal(self):
        for size in range(1, 5):
            for one in drawn_trees(size, 15, "one") + all_trees(size)[::5]:
                for other in drawn_trees(size, 15, "other") + all_trees(size)[::7]:
                    self.assertIs(canonical(one) == canonical(other), rows_of(one) == rows_of(other), (one, other))

    def test_there_is_one_for_each_set_of_rows(self):
        for size in range(1, 6):
            self.assertEqual(len(trees_by_rows(size)), len(all_trees(size)))
            for tree in all_trees(size):
                self.assertEqual(canonical(tree), tree)

    def test_large_trees(self):
        draw = Random("large canonical")
        for tree in LARGE_TREES + [DEEP]:
            found = canonical(tree)
            self.assertIs(is_canonical_by_words(found), True, tree)
            self.assertEqual(canonical(found), found)
            self.assertEqual(canonical(stirred(tree, draw)), found)
            self.assertEqual(told_by_words(found), told_by_words(tree))

    def test_edges(self):
        self.assertEqual(canonical(0), 0)
        self.assertEqual(canonical(("any", (1, 0))), ("any", (0, 1)))
        self.assertEqual(canonical(("turn", (2, 0, 1))), ("turn", (1, 0, 2)))
        self.assertEqual(canonical(("turn", (1, 0, 2))), ("turn", (1, 0, 2)))
        # The least elements of the first and the last child are compared, not their first ones.
        self.assertEqual(
            canonical(("turn", (("any", (3, 1)), 4, ("any", (2, 0))))), ("turn", (("any", (0, 2)), 4, ("any", (1, 3)))),
        )


class Fitting(unittest.TestCase):
    """Point 66."""

    def test_a_set_fits_if_it_is_together_in_all_rows(self):
        both = {True: 0, False: 0}
        for tree in ALL_TREES:
            for chosen in subsets(len(leaves(tree))):
                expected = fits_by_words(tree, chosen)
                self.assertIs(fits(tree, chosen), expected, (tree, chosen))
                both[expected] += 1
        self.assertGreater(min(both.values()), 1000)

    def test_trees_in_whatever_order(self):
        draw = Random("fitting")
        for tree in drawn_trees(5, 30, "fitting") + [stirred(tree, draw) for tree in all_trees(4)[::3]]:
            for chosen in subsets(len(leaves(tree))):
                self.assertIs(fits(tree, chosen), fits_by_words(tree, chosen), (tree, chosen))

    def test_sets_that_fit_every_tree(self):
        for tree in FEW_TREES + LARGE_TREES:
            size = len(leaves(tree))
            for chosen in [(), tuple(range(size))] + [(x,) for x in range(size)]:
                self.assertIs(fits(tree, chosen), True, (tree, chosen))

    def test_neighbours_of_a_part_with_the_word_turn(self):
        tree = ("turn", (0, ("any", (1, 2)), 3, 4, 5))
        for chosen in [(0, 1, 2), (1, 2, 3), (3, 4), (4, 5), (3, 4, 5), (1, 2, 3, 4), (0, 1, 2, 3), (1, 2, 3, 4, 5)]:
            self.assertIs(fits(tree, chosen), True, chosen)
        for chosen in [(0, 1), (2, 3), (3, 5), (0, 5), (0, 3), (1, 2, 4), (0, 1, 2, 4), (0, 2, 3), (0, 4, 5)]:
            self.assertIs(fits(tree, chosen), False, chosen)

    def test_parts(self):
        for tree in LARGE_TREES + [DEEP]:
            for part in inner_parts(tree):
                self.assertIs(fits(tree, leaves(part)), True)
        self.assertIs(fits(DEEP, (4, 5)), True)
        self.assertIs(fits(DEEP, (3, 4, 5)), True)
        self.assertIs(fits(DEEP, (3, 4)), False)
        self.assertIs(fits(DEEP, (3, 6)), False)
        self.assertIs(fits(DEEP, (0, 1)), False)


class Told(unittest.TestCase):
    """Point 69."""

    def test_told_sets(self):
        for tree in ALL_TREES + LARGE_TREES + [DEEP] + drawn_trees(6, 30, "told"):
            found = told_sets(tree)
            self.assertEqual(found, told_by_words(tree), tree)
            self.assertEqual(found, sorted(set(found)))
            self.assertTrue(all(fits(tree, chosen) for chosen in found))

    def test_the_rows_are_those_in_which_all_told_sets_are_together(self):
        for tree in ALL_TREES:
            size = len(leaves(tree))
            there = set(rows(size)).intersection(*[rows_together(size, chosen) for chosen in told_sets(tree)])
            self.assertEqual(set(rows_of(tree)), there, tree)

    def test_edges(self):
        self.assertEqual(told_sets(0), [])
        self.assertEqual(told_sets(("any", (0, 1))), [])
        self.assertEqual(told_sets(("any", tuple(range(8)))), [])
        self.assertEqual(told_sets(("turn", (1, 0, 2))), [(0, 1), (0, 2)])
        self.assertEqual(told_sets(("any", (("any", (2, 1)), 0))), [(1, 2)])
        tree = ("turn", (("any", (0, 1)), 2, ("any", (3, 4))))
        self.assertEqual(told_sets(tree), [(0, 1), (0, 1, 2), (2, 3, 4), (3, 4)])

    def test_a_changed_list_changes_no_later_result(self):
        tree = ("turn", (0, 1, 2, 3))
        found = told_sets(tree)
        found.append(())
        found[0] = None
        self.assertEqual(told_sets(tree), [(0, 1), (1, 2), (2, 3)])


class Texts(unittest.TestCase):
    """The interface of tree_text."""

    def test_texts(self):
        for tree in FEW_TREES + LARGE_TREES + [DEEP]:
            self.assertEqual(tree_text(tree), text_by_words(tree))

    def test_written_texts(self):
        self.assertEqual(tree_text(0), "0")
        self.assertEqual(tree_text(("any", (1, 0))), "(1 0)")
        self.assertEqual(tree_text(("turn", (2, 0, 1))), "[2 0 1]")
        self.assertEqual(tree_text(DEEP), "(0 [1 (2 [3 (4 5) 6]) 7])")

    def test_different_trees_have_different_texts(self):
        self.assertEqual(len({tree_text(tree) for tree in ALL_TREES}), len(set(ALL_TREES)))
        self.assertEqual(len({tree_text(("turn", order)) for order in permutations(range(3))}), 6)


if __name__ == "__main__":
    unittest.main()
