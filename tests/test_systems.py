"""Points 4 to 6 and 9 to 16: systems, rows, spans, gaps, derived sets, parts and renaming."""

import unittest
from itertools import permutations
from math import factorial

from kepttogether.systems import (
    derived, gaps, is_row, is_system, keeps, overlap, part, part_of_row, renamed, renamed_row, spans, together,
)
from support import (
    EDGE_SYSTEMS, LARGE_SYSTEMS, SMALL_SYSTEMS, all_systems, drawn_systems, keeping_rows, rows, stands_together,
    subsets,
)


def some_rows(size):
    return rows(size) if size < 5 else rows(size)[::factorial(size) // 24 - 1]


def derived_by_words(system):
    """Point 13, by trying all pairs of sets until nothing is new."""
    found = {frozenset(chosen) for chosen in system[1]}
    while True:
        more = set(found)
        for one in found:
            for other in found:
                if one & other:
                    more |= {one | other, one & other}
                    if one - other and other - one:
                        more |= {one - other, other - one}
        if more == found:
            return {tuple(sorted(chosen)) for chosen in found}
        found = more


class Forms(unittest.TestCase):
    """Point 5."""

    def test_systems(self):
        for system in SMALL_SYSTEMS + LARGE_SYSTEMS:
            self.assertIs(is_system(system), True, system)

    def test_sizes(self):
        for size in range(-1, 12):
            self.assertIs(is_system((size, ())), 1 <= size <= 8, size)

    def test_many_sets(self):
        for many in range(12):
            self.assertIs(is_system((3, ((0, 1),) * many)), many <= 8, many)

    def test_sets(self):
        for chosen in [(), (0,), (3,), (0, 3), (0, 1, 2, 3)]:
            self.assertIs(is_system((4, (chosen,))), True, chosen)
        wrong = [(1, 0), (0, 0), (0, 4), (4,), (-1,), (0, 1, 2, 3, 4), (False,), (True,), (0, True), [0], ("0",), 0]
        for chosen in wrong:
            self.assertIs(is_system((4, (chosen,))), False, chosen)
            self.assertIs(is_system((4, ((0, 1), chosen))), False, chosen)

    def test_wrong_systems(self):
        wrong = [None, 4, "4", (), (4,), (4, (), ()), [4, ()], (4, []), (4, [(0,)]), ((), 4), (4, None)]
        for value in wrong + [(True, ()), ("4", ()), (9, ((0, 8),)), (4, ((0,), (1,), 2))]:
            self.assertIs(is_system(value), False, value)

    def test_rows(self):
        for size in range(1, 6):
            for row in rows(size):
                self.assertIs(is_row(row, size), True, row)
                self.assertIs(is_row(row, size + 1), False, row)
                self.assertIs(is_row(row, size - 1), False, row)
        self.assertIs(is_row((7, 0, 6, 1, 5, 2, 4, 3), 8), True)

    def test_wrong_rows(self):
        wrong = [[0, 1], (0, 0), (1, 2), (0, -1), (False, 1), (0, True), (0, "1"), (0, None), (0, (1,))]
        for value in wrong + ["01", None, 0, True, (), []]:
            self.assertIs(is_row(value, 2), False, value)

    def test_the_size_of_a_row_is_not_checked(self):
        self.assertIs(is_row(tuple(range(9)), 9), True)
        self.assertIs(is_row(tuple(range(30)), 30), True)
        self.assertIs(is_row((0,) * 9, 9), False)
        self.assertIs(is_row((), 0), True)
        self.assertIs(is_row((0,), 0), False)
        self.assertIs(is_row((), -1), False)


class Places(unittest.TestCase):
    """Points 6 and 9 to 11."""

    def test_spans_and_gaps(self):
        for system in SMALL_SYSTEMS:
            for row in some_rows(system[0]):
                for index, chosen in enumerate(system[1]):
                    places = [place for place, x in enumerate(row) if x in chosen]
                    span = (places[0], places[-1]) if places else None
                    between = row[places[0]:places[-1]] if places else ()
                    self.assertEqual(spans(system, row)[index], span)
                    self.assertEqual(gaps(system, row)[index], tuple(sorted(set(between) - set(chosen))))
                self.assertEqual((len(spans(system, row)), len(gaps(system, row))), (len(system[1]),) * 2)

    def test_together_and_keeps(self):
        for system in SMALL_SYSTEMS:
            for row in some_rows(system[0]):
                kept = [index for index, chosen in enumerate(system[1]) if stands_together(chosen, row)]
                self.assertEqual(together(system, row), tuple(kept))
                self.assertIs(keeps(system, row), len(kept) == len(system[1]))

    def test_large_systems(self):
        for system in LARGE_SYSTEMS:
            up = tuple(range(system[0]))
            for row in [up, up[::-1], up[::2] + up[1::2]]:
                kept = [index for index, chosen in enumerate(system[1]) if stands_together(chosen, row)]
                self.assertEqual(together(system, row), tuple(kept))
                self.assertIs(keeps(system, row), len(kept) == len(system[1]))

    def test_edges(self):
        system, row = (4, ((), (2,), (0, 1, 2, 3), (0, 3), (0, 3))), (3, 2, 1, 0)
        self.assertEqual(spans(system, row), (None, (1, 1), (0, 3), (0, 3), (0, 3)))
        self.assertEqual(gaps(system, row), ((), (), (), (1, 2), (1, 2)))
        self.assertEqual(together(system, row), (0, 1, 2))
        self.assertIs(keeps(system, row), False)
        for function in (spans, gaps, together):
            self.assertEqual(function((1, ()), (0,)), ())
        self.assertIs(keeps((1, ()), (0,)), True)

    def test_a_reversed_row_keeps_the_system_too(self):
        for system in SMALL_SYSTEMS:
            for row in some_rows(system[0]):
                self.assertIs(keeps(system, row), keeps(system, row[::-1]))
                self.assertEqual(gaps(system, row), gaps(system, row[::-1]))

    def test_small_and_full_sets_are_together_in_every_row(self):
        for size in range(1, 6):
            system = (size, ((),) + tuple((x,) for x in range(size)) + (tuple(range(size)),))
            for row in rows(size):
                self.assertIs(keeps(system, row), True)
                self.assertEqual(together(system, row), tuple(range(size + 2)))


class Overlaps(unittest.TestCase):
    """Points 12 and 13."""

    def test_overlap(self):
        for first in subsets(4):
            for second in subsets(4):
                one, other = set(first), set(second)
                expected = bool(one & other and one - other and other - one)
                self.assertIs(overlap(first, second), expected, (first, second))

    def test_overlap_up_to_element_7(self):
        self.assertIs(overlap((0, 7), (6, 7)), True)
        self.assertIs(overlap((0, 7), tuple(range(8))), False)
        self.assertIs(overlap((), (7,)), False)
        self.assertIs(overlap((), ()), False)

    def test_what_is_together_with_two_sets(self):
        for first in subsets(4):
            for second in subsets(4):
                for row in rows(4):
                    if set(first) & set(second) and keeps((4, (first, second)), row):
                        one, other = set(first), set(second)
                        more = [one | other, one & other] + [one - other, other - one] * overlap(first, second)
                        self.assertIs(keeps((4, tuple(tuple(sorted(chosen)) for chosen in more)), row), True)

    def test_derived_sets(self):
        for system in SMALL_SYSTEMS + LARGE_SYSTEMS:
            found = derived_by_words(system)
            self.assertEqual(derived(system), tuple(sorted(found, key=lambda chosen: (len(chosen), chosen))), system)

    def test_derived_edges(self):
        self.assertEqual(derived((3, ())), ())
        self.assertEqual(derived((3, ((), ()))), ((),))
        self.assertEqual(derived((3, ((0, 1),) * 8)), ((0, 1),))
        self.assertEqual(derived((4, ((0, 1), (2, 3)))), ((0, 1), (2, 3)))
        self.assertEqual(derived((4, ((0, 1, 2), (0, 1)))), ((0, 1), (0, 1, 2)))
        self.assertEqual(len(derived((8, tuple((x, x + 1) for x in range(7)) + ((0, 7),)))), 255)

    def test_a_row_keeps_the_system_if_all_derived_sets_are_together(self):
        for system in EDGE_SYSTEMS + drawn_systems(60, 3, 5, 4, "derived"):
            for row in rows(system[0]):
                self.assertIs(keeps(system, row), all(stands_together(chosen, row) for chosen in derived(system)))


class Parts(unittest.TestCase):
    """Point 14."""

    def test_parts(self):
        for system in SMALL_SYSTEMS + LARGE_SYSTEMS:
            size, sets = system
            for members in subsets(size)[1::3] + [tuple(range(size))]:
                numbers = {x: number for number, x in enumerate(members)}
                cut = tuple(tuple(numbers[x] for x in chosen if x in numbers) for chosen in sets)
                self.assertEqual(part(system, members), (len(members), cut))

    def test_parts_of_rows(self):
        for size in range(1, 6):
            for row in some_rows(size):
                for members in subsets(size)[1:]:
                    cut = part_of_row(row, members)
                    self.assertEqual(tuple(members[number] for number in cut), tuple(x for x in row if x in members))

    def test_edges(self):
        self.assertEqual(part((1, ((), (0,))), (0,)), (1, ((), (0,))))
        self.assertEqual(part((8, ((0, 7), (3,), ())), (7,)), (1, ((0,), (), ())))
        self.assertEqual(part_of_row((7, 6, 5, 4, 3, 2, 1, 0), (1, 7)), (1, 0))
        self.assertEqual(part_of_row((0,), (0,)), (0,))

    def test_the_part_of_a_keeping_row_keeps_the_part(self):
        for system in EDGE_SYSTEMS + drawn_systems(30, 3, 5, 3, "parts"):
            for row in keeping_rows(system):
                for members in subsets(system[0])[1:]:
                    self.assertIs(keeps(part(system, members), part_of_row(row, members)), True)


class Renaming(unittest.TestCase):
    """Point 15."""

    def test_systems(self):
        for system in SMALL_SYSTEMS + LARGE_SYSTEMS:
            size, sets = system
            for order in some_rows(size)[:30]:
                other = tuple(tuple(y for y in range(size) if order.index(y) in chosen) for chosen in sets)
                self.assertEqual(renamed(system, order), (size, other))

    def test_rows(self):
        for size in range(1, 5):
            for row in rows(size):
                for order in rows(size):
                    other = renamed_row(row, order)
                    self.assertEqual([order.index(y) for y in other], list(row))
        self.assertEqual(renamed_row((1, 2, 0), (1, 2, 0)), (2, 0, 1))
        self.assertEqual(renamed_row((0, 7, 1, 6, 2, 5, 3, 4), (7, 6, 5, 4, 3, 2, 1, 0)), (7, 0, 6, 1, 5, 2, 4, 3))

    def test_a_row_keeps_a_system_if_the_renamed_one_keeps_the_renamed_one(self):
        for system in EDGE_SYSTEMS + all_systems(3, 2)[::5] + drawn_systems(20, 4, 4, 3, "renaming"):
            for order in some_rows(system[0]):
                for row in some_rows(system[0]):
                    self.assertIs(keeps(renamed(system, order), renamed_row(row, order)), keeps(system, row))


class Counts(unittest.TestCase):
    """Point 16."""

    def test_one_set(self):
        for size in range(1, 7):
            for many in range(size + 1):
                system = (size, (tuple(range(size))[size - many:],))
                counted = sum(keeps(system, row) for row in permutations(range(size)))
                told = factorial(many) * factorial(size - many + 1) if many else factorial(size)
                self.assertEqual(counted, told, system)


if __name__ == "__main__":
    unittest.main()
