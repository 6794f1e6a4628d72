"""Point 3, and what takes every value among solving, trees, reducing and listing: an answer, and no error."""

import unittest

from kepttogether.listing import index_of_kept
from kepttogether.reducing import accepts_tree, grounds_for, tree_of
from kepttogether.solving import accepts, solve
from kepttogether.trees import is_tree
from growing import all_trees, drawn_trees, is_accepted_by_words, is_tree_by_words
from judging import JudgeChecks
from support import does_keep, ends, is_right_chain, is_row_by_words, keeping_rows, nested, spoiled, values_of_all_kinds

SYSTEM = (4, ((0, 1, 2), (2, 3)))
THREE = (3, ((0, 1), (1, 2), (0, 2)))


def is_answer(system, value):
    if type(value) is not tuple or len(value) != 2 or value[0] not in ("row", "chain"):
        return False
    if value[0] == "row":
        return is_row_by_words(value[1], system[0]) and does_keep(system, value[1])
    return is_right_chain(system, value[1]) and ends(value[1])[1] == value[1][0][::-1]


class EveryValue(JudgeChecks, unittest.TestCase):
    def test_accepts(self):
        for system, good in [
            (SYSTEM, [solve(SYSTEM), ("row", (3, 2, 0, 1))]), (THREE, [solve(THREE)]), ((1, ()), [("row", (0,))]),
        ]:
            self.check_all(lambda value: accepts(system, value), lambda value: is_answer(system, value), good)
            # What stands behind the word is every value, too.
            for word in ("row", "chain"):
                self.check_all(
                    lambda value: accepts(system, (word, value)), lambda value: is_answer(system, (word, value)), [],
                )

    def test_is_tree(self):
        for size in (1, 2, 3, 5, 8):
            good = all_trees(size) if size < 4 else drawn_trees(size, 5, "every value")
            self.check_all(
                lambda value: is_tree(value, size), lambda value: is_tree_by_words(value, size), good,
            )
            # What stands behind the word is every value, too.
            for word in ("any", "turn"):
                self.check_all(
                    lambda value: is_tree((word, value), size), lambda value: is_tree_by_words((word, value), size), [],
                )

    def test_accepts_tree_with_every_tree(self):
        for system in (SYSTEM, (1, ()), (3, ())):
            grounds = grounds_for(system)
            self.check_all(
                lambda value: accepts_tree(system, value, grounds),
                lambda value: is_accepted_by_words(system, value, grounds),
                [tree_of(system)],
            )

    def test_accepts_tree_with_all_grounds(self):
        for system in (SYSTEM, (1, ()), (3, ((1, 2),))):
            tree = tree_of(system)
            self.check_all(
                lambda value: accepts_tree(system, tree, value),
                lambda value: is_accepted_by_words(system, tree, value),
                [grounds_for(system)],
            )

    def test_index_of_kept(self):
        for system in (SYSTEM, THREE, (1, ()), (2, ())):
            kept = keeping_rows(system)
            values = values_of_all_kinds() + [value for row in kept for value in spoiled(row)] + kept
            for value in values:
                before = repr(value)
                keeping = is_row_by_words(value, system[0]) and value in kept
                found = index_of_kept(system, value)
                self.assertEqual(found, kept.index(value) if keeping else None, before)
                self.assertIs(type(found), int if keeping else type(None))
                self.assertEqual(repr(value), before)

    def test_values_that_are_nested_too_deeply_to_be_looked_through(self):
        deep = nested(20000)
        tree, grounds = tree_of(SYSTEM), grounds_for(SYSTEM)
        for value in [deep, [deep], ("row", deep), ("chain", deep), (deep, deep), ("any", deep), ("any", (0, deep))]:
            self.assertIs(accepts(SYSTEM, value), False)
            self.assertIs(is_tree(value, 4), False)
            self.assertIs(accepts_tree(SYSTEM, value, grounds), False)
            self.assertIs(accepts_tree(SYSTEM, tree, value), False)
            self.assertIs(accepts_tree(SYSTEM, value, value), False)
            self.assertIsNone(index_of_kept(SYSTEM, value))
        self.assertIs(accepts_tree(SYSTEM, tree, (deep,) * len(grounds)), False)
        self.assertIs(accepts_tree(SYSTEM, tree, ((deep,) * 2,) * len(grounds)), False)

    def test_trees_that_are_nested_too_deeply(self):
        right, left, shared, wide = 0, 0, 0, 0
        for number in range(20000):
            right, left = ("any", (number % 8, right)), ("any", (left, number % 8))
        for _ in range(200):
            shared, wide = ("any", (shared, shared)), ("turn", (wide, wide, wide))
        for value in (right, left, shared, wide, ("any", (8, shared))):
            for size in range(1, 9):
                self.assertIs(is_tree(value, size), False)
            self.assertIs(accepts_tree(SYSTEM, value, ()), False)

    def test_true_and_false_are_not_integers(self):
        self.assertIs(is_tree(False, 1), False)
        self.assertIs(is_tree(("any", (0, True)), 2), False)
        self.assertIs(accepts(SYSTEM, ("row", (False, True, 2, 3))), False)
        self.assertIsNone(index_of_kept(SYSTEM, (False, True, 2, 3)))
        self.assertEqual(index_of_kept(SYSTEM, (0, 1, 2, 3)), 0)
        self.assertIs(accepts_tree((1, ()), False, ()), False)
        self.assertIs(accepts_tree((1, ()), 0, False), False)


class TheWordsAsCode(unittest.TestCase):
    """The references of this file are worth something only if they tell right from wrong themselves."""

    def test_references(self):
        self.assertIs(is_answer(SYSTEM, ("row", (0, 1, 2, 3))), True)
        self.assertIs(is_answer(SYSTEM, ("row", (0, 2, 1, 3))), False)
        self.assertIs(is_answer(SYSTEM, ("chain", (0, 1, 2, 3))), False)
        self.assertIs(is_tree_by_words(("turn", (0, 1, 2)), 3), True)
        self.assertIs(is_tree_by_words(("turn", (0, 1)), 2), False)
        self.assertIs(is_accepted_by_words((3, ()), ("any", (0, 1, 2)), ()), True)
        self.assertIs(is_accepted_by_words((3, ((0, 1),)), ("any", (0, 1, 2)), ()), False)


if __name__ == "__main__":
    unittest.main()
