"""Points 51 to 56 and 60, and what point 57 says of each tournament: closed sets, components, blocks and rows."""

import unittest
from itertools import combinations, permutations, product

from kepttogether.deciding import tournament_of
from kepttogether.systems import keeps
from kepttogether.tournaments import components, is_closed, is_tournament, row_of, smallest_closed
from support import (
    EDGE_SYSTEMS, LARGE_SYSTEMS, all_sides, all_systems, all_tournaments, are_consistent, drawn_sides, drawn_systems,
    drawn_tournaments, has_circle_of_any_length, is_tournament_by_words, required_pairs, rows, stands_together, subsets,
    tournament_of_row,
)

ABOUT = ((0, 1), (1, 2), (2, 0))
LADDER = ((0, 2), (0, 3), (1, 0), (1, 2), (1, 3), (2, 3))
SMALL = [(size, tournament) for size in range(1, 5) for tournament in all_tournaments(size)]
OF_FIVE = [(5, tournament) for tournament in all_tournaments(5)]
LARGE = [(size, tournament) for size in (6, 7, 8) for tournament in drawn_tournaments(size, 6, "large")]
# Each element precedes the next one, and is preceded by those further behind: one component with 8 blocks.
WINDING = tuple(sorted([(x, x + 1) for x in range(7)] + [(y, x) for x in range(8) for y in range(x + 2, 8)]))


def closed_by_words(members, tournament, chosen):
    """Point 52, among some elements."""
    return all(
        all((z, x) in tournament for x in chosen) or all((x, z) in tournament for x in chosen)
        for z in members if z not in chosen
    )


def subsets_of(members):
    return [chosen for many in range(len(members) + 1) for chosen in combinations(members, many)]


def components_by_words(members, tournament):
    """Point 53: the longest sequence is cut at each place at which it can be cut."""
    cuts = [
        set(ahead) for ahead in subsets_of(members)
        if all((x, y) in tournament for x in ahead for y in members if y not in ahead)
    ]
    cuts.sort(key=len)
    return [tuple(sorted(after - before)) for before, after in zip(cuts, cuts[1:])]


def blocks_by_words(members, tournament):
    """Point 54."""
    closed = [
        chosen for chosen in subsets_of(members)
        if len(chosen) < len(members) and closed_by_words(members, tournament, chosen)
    ]
    found = {tuple(y for y in members if any(x in chosen and y in chosen for chosen in closed)) for x in members}
    return sorted(found)


def row_by_words(members, tournament):
    """Point 55."""
    if len(members) == 1:
        return members
    groups = components_by_words(members, tournament)
    if len(groups) == 1:
        groups = blocks_by_words(members, tournament)
    return sum((row_by_words(group, tournament) for group in groups), ())


class Forms(unittest.TestCase):
    """Point 51."""

    def test_tournaments(self):
        for size, tournament in SMALL + OF_FIVE + LARGE + [(8, WINDING)]:
            self.assertIs(is_tournament(size, tournament), True)
            self.assertIs(is_tournament(size + 1, tournament) if size < 8 else False, False)
            self.assertIs(is_tournament(size - 1, tournament) if size > 1 else False, False)

    def test_all_tuples_of_pairs(self):
        every = [(x, y) for x in range(-1, 3) for y in range(-1, 3)]
        for value in product(every, repeat=3):
            self.assertIs(is_tournament(3, value), is_tournament_by_words(3, value), value)
        for many in (0, 1, 2, 4):
            for value in combinations(every, many):
                self.assertIs(is_tournament(3, value), False, value)

    def test_edges(self):
        self.assertIs(is_tournament(1, ()), True)
        self.assertIs(is_tournament(2, ((0, 1),)), True)
        self.assertIs(is_tournament(2, ((1, 0),)), True)
        for value in [(), ((0, 1), (1, 0)), ((0, 0),), ((0, 2),), [(0, 1)], ([0, 1],), ((0, True),), (0, 1), None, ""]:
            self.assertIs(is_tournament(2, value), False, value)
        self.assertIs(is_tournament(3, ABOUT), True)
        self.assertIs(is_tournament(3, ABOUT[::-1]), False)
        self.assertIs(is_tournament(3, ((0, 1), (1, 0), (1, 2))), False)
        self.assertIs(is_tournament(3, ((0, 1), (0, 1), (1, 2))), False)


class Closed(unittest.TestCase):
    """Point 52."""

    def test_closed_sets(self):
        both = {True: 0, False: 0}
        for size, tournament in SMALL + OF_FIVE[::9] + LARGE[::4]:
            for chosen in subsets(size):
                closed = closed_by_words(range(size), tournament, chosen)
                self.assertIs(is_closed(size, tournament, chosen), closed, (size, tournament, chosen))
                both[closed] += 1
        self.assertGreater(min(both.values()), 100)

    def test_smallest_closed_sets(self):
        for size, tournament in SMALL + OF_FIVE[::9] + LARGE[::4]:
            closed = [set(chosen) for chosen in subsets(size) if closed_by_words(range(size), tournament, chosen)]
            for chosen in subsets(size):
                least = set(range(size)).intersection(*[one for one in closed if set(chosen) <= one])
                self.assertIn(least, closed)
                found = smallest_closed(size, tournament, chosen)
                self.assertEqual(found, tuple(sorted(least)), (size, tournament, chosen))

    def test_none_one_and_all_are_closed(self):
        for size, tournament in SMALL + OF_FIVE[::9] + LARGE + [(8, WINDING)]:
            for chosen in [(), tuple(range(size))] + [(x,) for x in range(size)]:
                self.assertIs(is_closed(size, tournament, chosen), True)
                self.assertEqual(smallest_closed(size, tournament, chosen), chosen)

    def test_two_elements(self):
        self.assertEqual(smallest_closed(3, ABOUT, (0, 2)), (0, 1, 2))
        self.assertEqual(smallest_closed(4, LADDER, (0, 3)), (0, 2, 3))
        self.assertEqual(smallest_closed(8, WINDING, (3, 4)), tuple(range(8)))


class Components(unittest.TestCase):
    """Point 53."""

    def test_components(self):
        for size, tournament in SMALL + OF_FIVE + LARGE:
            expected = tuple(components_by_words(range(size), tournament))
            self.assertEqual(components(size, tournament), expected, (size, tournament))

    def test_each_element_is_in_exactly_one_and_earlier_ones_precede_later_ones(self):
        for size, tournament in SMALL + OF_FIVE[::5] + LARGE + [(8, WINDING)]:
            found = components(size, tournament)
            self.assertEqual(sorted(x for group in found for x in group), list(range(size)))
            for one, other in combinations(found, 2):
                self.assertTrue(all((x, y) in tournament for x in one for y in other))

    def test_edges(self):
        self.assertEqual(components(1, ()), ((0,),))
        self.assertEqual(components(3, ABOUT), ((0, 1, 2),))
        self.assertEqual(components(4, LADDER), ((1,), (0,), (2,), (3,)))
        self.assertEqual(components(8, WINDING), (tuple(range(8)),))
        self.assertEqual(components(4, ((0, 2), (1, 0), (2, 1), (3, 0), (3, 1), (3, 2))), ((3,), (0, 1, 2)))


class Rows(unittest.TestCase):
    """Points 54 to 56."""

    def test_rows(self):
        deep = 0
        for size, tournament in SMALL + OF_FIVE + LARGE:
            found = row_by_words(tuple(range(size)), tournament)
            self.assertEqual(row_of(size, tournament), found, (size, tournament))
            groups = [group for group in components_by_words(range(size), tournament) if len(group) > 1]
            deep += any(len(block) > 1 for group in groups for block in blocks_by_words(group, tournament))
        self.assertGreater(deep, 20)

    def test_each_element_is_in_exactly_one_block(self):
        for size, tournament in SMALL + OF_FIVE[::3]:
            for group in components_by_words(range(size), tournament):
                if len(group) > 1:
                    blocks = blocks_by_words(group, tournament)
                    self.assertEqual(sorted(x for block in blocks for x in block), list(group))
                    self.assertGreater(len(blocks), 1)

    def test_closed_sets_are_together(self):
        for size, tournament in SMALL + OF_FIVE + LARGE[::3]:
            row = row_of(size, tournament)
            for chosen in subsets(size):
                if closed_by_words(range(size), tournament, chosen):
                    self.assertTrue(stands_together(chosen, row), (size, tournament, chosen))

    def test_the_tournament_of_a_row(self):
        for size in range(1, 6):
            for row in rows(size):
                self.assertEqual(row_of(size, tournament_of_row(row)), row)
                self.assertEqual(components(size, tournament_of_row(row)), tuple((x,) for x in row))
        for row in rows(8)[::2017]:
            self.assertEqual(row_of(8, tournament_of_row(row)), row)

    def test_a_tournament_without_circle_of_three_is_that_of_a_row(self):
        for size, tournament in SMALL + OF_FIVE:
            about = any(
                (x, y) in tournament and (y, z) in tournament and (z, x) in tournament
                for x, y, z in permutations(range(size), 3)
            )
            self.assertIs(has_circle_of_any_length(size, tournament), about)
            self.assertIs(tournament_of_row(row_of(size, tournament)) == tournament, not about)

    def test_circles(self):
        self.assertEqual(row_of(3, ABOUT), (0, 1, 2))
        self.assertEqual(row_of(3, ((0, 2), (1, 0), (2, 1))), (0, 1, 2))
        self.assertEqual(row_of(8, WINDING), tuple(range(8)))
        # The block 1 3 of a circle, with 3 before 1: blocks by their least elements, and rows within them.
        self.assertEqual(row_of(4, ((0, 1), (0, 3), (1, 2), (2, 0), (3, 1), (3, 2))), (0, 3, 1, 2))

    def test_one_element(self):
        self.assertEqual(row_of(1, ()), (0,))

    def test_a_component_behind_another_one(self):
        tournament = ((0, 2), (1, 0), (2, 1), (3, 0), (3, 1), (3, 2))
        self.assertEqual(row_of(4, tournament), (3, 0, 1, 2))


class Required(unittest.TestCase):
    """Point 57: each tournament that has all required pairs of consistent sides has a row that keeps the system."""

    def test_all_tournaments_with_the_required_pairs(self):
        met = 0
        systems = [system for system in EDGE_SYSTEMS if len(system[1]) < 8] + all_systems(3, 2)[::3]
        for system in systems + drawn_systems(25, 4, 5, 3, "required"):
            free = sum(system[0] - len(chosen) for chosen in system[1] if chosen)
            sides_of_it = all_sides(system) if free <= 6 else drawn_sides(system, 60, "required")
            for sides in [sides for sides in sides_of_it if are_consistent(system, sides)]:
                asked = required_pairs(system, sides)
                left = [(x, y) for x, y in combinations(range(system[0]), 2) if not {(x, y), (y, x)} & set(asked)]
                for more in list(product(*[(pair, pair[::-1]) for pair in left]))[:32]:
                    tournament = tuple(sorted(asked + list(more)))
                    self.assertIs(keeps(system, row_of(system[0], tournament)), True, (system, tournament))
                    met += 1
        self.assertGreater(met, 300)

    def test_the_tournament_of_sides(self):
        for system in EDGE_SYSTEMS + LARGE_SYSTEMS:
            for sides in drawn_sides(system, 20, "of sides"):
                if are_consistent(system, sides):
                    self.assertIs(keeps(system, row_of(system[0], tournament_of(system, sides))), True)


class Renaming(unittest.TestCase):
    """Point 60."""

    def test_renaming_renames_closed_sets_and_components(self):
        for size, tournament in SMALL + OF_FIVE[::40] + LARGE[::5]:
            for order in rows(size)[1::max(1, len(rows(size)) // 4)]:
                other = tuple(sorted((order[x], order[y]) for x, y in tournament))
                groups = tuple(tuple(sorted(order[x] for x in group)) for group in components(size, tournament))
                self.assertEqual(components(size, other), groups)
                for chosen in subsets(size)[::3]:
                    there = tuple(sorted(order[x] for x in chosen))
                    self.assertIs(is_closed(size, other, there), is_closed(size, tournament, chosen))

    def test_turning_all_pairs_around(self):
        for size, tournament in SMALL + OF_FIVE[::20] + LARGE[::5]:
            other = tuple(sorted((y, x) for x, y in tournament))
            self.assertEqual(components(size, other), components(size, tournament)[::-1])
            for chosen in subsets(size)[::2]:
                self.assertIs(is_closed(size, other, chosen), is_closed(size, tournament, chosen))
                self.assertEqual(smallest_closed(size, other, chosen), smallest_closed(size, tournament, chosen))


if __name__ == "__main__":
    unittest.main()
