"""Points 74 to 79: the keeping rows in their order, their numbers, indexes and beginnings."""

import unittest
from functools import lru_cache
from itertools import permutations
from math import factorial

from kepttogether.listing import count_beginning, count_kept, index_of_kept, kept_rows, nth_kept
from kepttogether.reducing import tree_of
from kepttogether.systems import keeps, renamed, renamed_row
from kepttogether.trees import count_rows, fits
from growing import count_by_words, fits_by_words
from support import (
    EDGE_SYSTEMS, LARGE_SYSTEMS, SMALL_SYSTEMS, all_systems, drawn_systems, keeping_rows, rows, subsets,
)

SYSTEM = (5, ((0, 1, 2), (2, 3, 4)))
THREE = (3, ((0, 1), (1, 2), (0, 2)))
MANY_SYSTEMS = SMALL_SYSTEMS + all_systems(3, 3)[::4] + drawn_systems(60, 4, 5, 4, "listing")
FEW_SYSTEMS = EDGE_SYSTEMS + all_systems(3, 2)[::6] + drawn_systems(25, 3, 5, 3, "few lists") + [THREE]
# Systems with few keeping rows among many, too many to go through all rows of each by itself.
LONG_SYSTEMS = [system for system in LARGE_SYSTEMS if len(system[1]) > 2] + drawn_systems(8, 6, 7, 3, "long lists")


def beginnings(size):
    return [beginning for many in range(size + 1) for beginning in permutations(range(size), many)]


@lru_cache(None)
def quick_keeping_rows(system):
    """All keeping rows, in ascending order: sets are together if their places have no gap."""
    found = []
    for row in rows(system[0]):
        place = {x: at for at, x in enumerate(row)}
        for chosen in system[1]:
            places = [place[x] for x in chosen]
            if places and max(places) - min(places) >= len(places):
                break
        else:
            found.append(row)
    return found


class Counting(unittest.TestCase):
    """Points 75 to 77."""

    def test_numbers_of_keeping_rows(self):
        for system in MANY_SYSTEMS:
            self.assertEqual(count_kept(system), len(keeping_rows(system)), system)

    def test_numbers_of_rows_that_begin_with_some_elements(self):
        for system in FEW_SYSTEMS:
            kept = keeping_rows(system)
            for beginning in beginnings(system[0]):
                expected = sum(row[:len(beginning)] == beginning for row in kept)
                self.assertEqual(count_beginning(system, beginning), expected, (system, beginning))

    def test_more_beginnings(self):
        for system in MANY_SYSTEMS[::3]:
            kept = keeping_rows(system)
            for beginning in beginnings(system[0])[1::7]:
                expected = sum(row[:len(beginning)] == beginning for row in kept)
                self.assertEqual(count_beginning(system, beginning), expected, (system, beginning))

    def test_the_number_is_a_sum_over_all_further_elements(self):
        for system in FEW_SYSTEMS + LONG_SYSTEMS:
            some = beginnings(system[0])[::1 if system[0] < 5 else 997]
            for beginning in [beginning for beginning in some if len(beginning) < system[0]]:
                further = [beginning + (x,) for x in range(system[0]) if x not in beginning]
                expected = sum(count_beginning(system, longer) for longer in further)
                self.assertEqual(count_beginning(system, beginning), expected, (system, beginning))

    def test_long_systems(self):
        met = 0
        for system in LONG_SYSTEMS:
            kept = quick_keeping_rows(system)
            self.assertEqual(count_kept(system), len(kept), system)
            for row in kept[::max(1, len(kept) // 6)]:
                for many in range(system[0] + 1):
                    expected = sum(other[:many] == row[:many] for other in kept)
                    self.assertEqual(count_beginning(system, row[:many]), expected, (system, row[:many]))
                    met += 1
        self.assertGreater(met, 100)

    def test_no_element_and_all(self):
        for system in FEW_SYSTEMS + LARGE_SYSTEMS:
            self.assertEqual(count_beginning(system, ()), count_kept(system))
        for system in FEW_SYSTEMS:
            for row in rows(system[0]):
                self.assertEqual(count_beginning(system, row), 1 if keeps(system, row) else 0)

    def test_edges(self):
        self.assertEqual(count_kept((1, ())), 1)
        self.assertEqual(count_beginning((1, ((0,),)), (0,)), 1)
        self.assertEqual(count_kept((8, ())), 40320)
        self.assertEqual(count_beginning((8, ()), (7,)), 5040)
        self.assertEqual(count_kept((8, tuple((x, x + 1) for x in range(7)))), 2)
        self.assertEqual(count_kept(THREE), 0)
        for beginning in beginnings(3):
            self.assertEqual(count_beginning(THREE, beginning), 0)
        for system in LARGE_SYSTEMS:
            tree = tree_of(system)
            self.assertEqual(count_kept(system), 0 if tree is None else count_by_words(tree))

    def test_one_set(self):
        for size in range(1, 9):
            for many in range(1, size + 1):
                system = (size, (tuple(range(size))[size - many:],))
                self.assertEqual(count_kept(system), factorial(many) * factorial(size - many + 1))


class Indexes(unittest.TestCase):
    """Point 74."""

    def test_rows_and_indexes(self):
        for system in FEW_SYSTEMS + MANY_SYSTEMS[::5]:
            kept = sorted(keeping_rows(system))
            self.assertEqual([nth_kept(system, index) for index in range(len(kept))], kept, system)
            self.assertEqual([index_of_kept(system, row) for row in kept], list(range(len(kept))), system)

    def test_rows_that_do_not_keep_the_system_have_no_index(self):
        met = 0
        for system in FEW_SYSTEMS:
            for row in rows(system[0]):
                if not keeps(system, row):
                    self.assertIsNone(index_of_kept(system, row), (system, row))
                    met += 1
        self.assertGreater(met, 100)

    def test_the_first_and_the_last_row(self):
        for system in MANY_SYSTEMS:
            kept = keeping_rows(system)
            if kept:
                self.assertEqual(nth_kept(system, 0), min(kept))
                self.assertEqual(nth_kept(system, len(kept) - 1), max(kept))
                self.assertEqual(index_of_kept(system, max(kept)), len(kept) - 1)

    def test_long_systems(self):
        for system in LONG_SYSTEMS:
            kept = quick_keeping_rows(system)
            for index in list(range(0, len(kept), max(1, len(kept) // 15))) + [len(kept) - 1] * (kept != []):
                self.assertEqual(nth_kept(system, index), kept[index], (system, index))
                self.assertEqual(index_of_kept(system, kept[index]), index, (system, index))

    def test_all_rows_of_8_elements(self):
        for index, row in list(enumerate(rows(8)))[::1999]:
            self.assertEqual(nth_kept((8, ()), index), row)
            self.assertEqual(index_of_kept((8, ()), row), index)
        self.assertEqual(nth_kept((8, ()), 40319), (7, 6, 5, 4, 3, 2, 1, 0))

    def test_one_element(self):
        self.assertEqual(nth_kept((1, ((0,), ())), 0), (0,))
        self.assertEqual(index_of_kept((1, ()), (0,)), 0)


class Lists(unittest.TestCase):
    """Point 75, and the interface of kept_rows."""

    def test_rows_that_begin_with_some_elements(self):
        for system in FEW_SYSTEMS:
            kept = sorted(keeping_rows(system))
            for beginning in beginnings(system[0])[::1 if system[0] < 5 else 5]:
                there = [row for row in kept if row[:len(beginning)] == beginning]
                for index in sorted({0, 1, 3, max(0, len(there) - 1), len(there), len(there) + 5}):
                    for many in (0, 1, 2, 20):
                        found = kept_rows(system, beginning, index, many)
                        self.assertEqual(found, there[index:index + many], (system, beginning, index, many))

    def test_they_follow_each_other_directly(self):
        for system in FEW_SYSTEMS:
            for beginning in beginnings(system[0])[1::4]:
                indexes = [index_of_kept(system, row) for row in kept_rows(system, beginning, 0, 20)]
                self.assertEqual(indexes, list(range(indexes[0], indexes[0] + len(indexes))) if indexes else [])

    def test_index_and_many_at_their_limits(self):
        self.assertEqual(kept_rows((8, ()), (), 40300, 20), rows(8)[40300:])
        self.assertEqual(kept_rows((8, ()), (), 40310, 20), rows(8)[40310:])
        self.assertEqual(kept_rows((8, ()), (), 40319, 1), [(7, 6, 5, 4, 3, 2, 1, 0)])
        self.assertEqual(kept_rows((8, ()), (), 40320, 20), [])
        self.assertEqual(kept_rows((8, ()), (), 100000, 20), [])
        self.assertEqual(kept_rows((8, ()), (), 0, 20), rows(8)[:20])
        self.assertEqual(kept_rows((8, ()), (), 0, 0), [])
        self.assertEqual(kept_rows((8, ()), tuple(range(8)), 0, 20), [tuple(range(8))])
        self.assertEqual(kept_rows((8, ()), tuple(range(8)), 1, 20), [])
        self.assertEqual(kept_rows(THREE, (), 0, 20), [])
        self.assertEqual(kept_rows(SYSTEM, (2,), 0, 20), [])
        self.assertEqual(kept_rows((1, ()), (0,), 0, 20), [(0,)])

    def test_long_systems(self):
        for system in LONG_SYSTEMS:
            kept = quick_keeping_rows(system)
            for row in kept[::max(1, len(kept) // 4)]:
                for many in (0, 1, 3):
                    there = [other for other in kept if other[:many] == row[:many]]
                    self.assertEqual(kept_rows(system, row[:many], 2, 9), there[2:11], (system, row[:many]))

    def test_a_changed_list_changes_no_later_result(self):
        found = kept_rows(SYSTEM, (0,), 0, 5)
        kept = list(found)
        found.append(None)
        found[0] = ()
        self.assertEqual(kept_rows(SYSTEM, (0,), 0, 5), kept)


class Changing(unittest.TestCase):
    """Points 78 and 79."""

    def test_renaming(self):
        for system in FEW_SYSTEMS:
            for order in rows(system[0])[1::max(1, len(rows(system[0])) // 3)]:
                other = renamed(system, order)
                self.assertEqual(count_kept(other), count_kept(system))
                for row in keeping_rows(system)[::5]:
                    self.assertIsNotNone(index_of_kept(other, renamed_row(row, order)))

    def test_a_reversed_keeping_row_is_a_keeping_row(self):
        for system in MANY_SYSTEMS + LARGE_SYSTEMS:
            many = count_kept(system)
            self.assertTrue(system[0] == 1 or many % 2 == 0, system)
            if many:
                self.assertIsNotNone(index_of_kept(system, nth_kept(system, many // 3)[::-1]))

    def test_one_set_more(self):
        met = {"less": 0, "none": 0, "same": 0}
        for system in [system for system in FEW_SYSTEMS if len(system[1]) < 8]:
            tree = tree_of(system)
            for chosen in subsets(system[0]):
                more = count_kept((system[0], system[1] + (chosen,)))
                self.assertLessEqual(more, count_kept(system))
                fitting = tree is not None and fits(tree, chosen)
                self.assertIs(more == count_kept(system), tree is None or fitting, (system, chosen))
                self.assertIs(fitting, tree is not None and fits_by_words(tree, chosen))
                met["none" if tree is None else "same" if fitting else "less"] += 1
        self.assertGreater(min(met.values()), 20)

    def test_the_number_is_that_of_the_rows_of_the_tree(self):
        for system in MANY_SYSTEMS:
            tree = tree_of(system)
            self.assertEqual(count_kept(system), 0 if tree is None else count_rows(tree))


if __name__ == "__main__":
    unittest.main()
