"""Point 27: the tournament of consistent sides."""

import unittest
from itertools import combinations

from kepttogether.deciding import tournament_of
from kepttogether.sides import sides_of
from support import (
    EDGE_SYSTEMS, LARGE_SYSTEMS, are_consistent, has_circle_of_any_length, is_tournament_by_words, keeping_rows,
    required_pairs, systems_and_sides, tournament_of_row,
)


def decided_by_words(system, sides):
    """Point 27, and which of its cases there were: a tournament and a set of words."""
    found, cases = [], set()
    asked = required_pairs(system, sides)
    for x, y in combinations(range(system[0]), 2):
        over = [z for z in range(system[0]) if (x, z) in asked and (z, y) in asked]
        back = [z for z in range(system[0]) if (y, z) in asked and (z, x) in asked]
        if (x, y) in asked or (y, x) in asked:
            found.append((x, y) if (x, y) in asked else (y, x))
            cases.add("required")
        elif back and not over:
            found.append((y, x))
            cases.add("back")
        else:
            found.append((x, y))
            cases.add("both" if over and back else "over" if over else "none")
    return tuple(sorted(found)), cases


class Deciding(unittest.TestCase):
    def test_all_cases(self):
        cases = []
        for system, sides in systems_and_sides():
            if are_consistent(system, sides):
                expected, there = decided_by_words(system, sides)
                self.assertEqual(tournament_of(system, sides), expected, (system, sides))
                cases += there
            else:
                self.assertIsNone(tournament_of(system, sides), (system, sides))
        for case in ("required", "over", "back", "none"):
            self.assertGreater(cases.count(case), 20, case)

    def test_it_is_a_tournament_that_has_all_required_pairs(self):
        for system, sides in systems_and_sides():
            found = tournament_of(system, sides)
            if found is not None:
                self.assertIs(is_tournament_by_words(system[0], found), True)
                self.assertEqual(set(required_pairs(system, sides)) - set(found), set())

    def test_required_orders(self):
        self.assertEqual(tournament_of((2, ((0,),)), ((0, -1),)), ((0, 1),))
        self.assertEqual(tournament_of((2, ((0,),)), ((0, 1),)), ((1, 0),))
        self.assertEqual(
            tournament_of((3, ((0,), (1,), (2,))), ((0, -1, 1), (1, 0, -1), (-1, 1, 0))), ((0, 1), (1, 2), (2, 0)),
        )

    def test_a_third_element_decides(self):
        system = (4, ((2, 3),))
        self.assertEqual(tournament_of(system, ((1, -1, 0, 0),)), ((0, 1), (0, 2), (0, 3), (2, 1), (2, 3), (3, 1)))
        self.assertEqual(tournament_of(system, ((-1, 1, 0, 0),)), ((1, 0), (1, 2), (1, 3), (2, 0), (2, 3), (3, 0)))

    def test_no_third_element_decides(self):
        system = (4, ((2, 3),))
        self.assertEqual(tournament_of(system, ((1, 1, 0, 0),)), ((0, 1), (0, 2), (0, 3), (1, 2), (1, 3), (2, 3)))
        self.assertEqual(tournament_of(system, ((-1, -1, 0, 0),)), ((0, 1), (2, 0), (2, 1), (2, 3), (3, 0), (3, 1)))
        self.assertEqual(tournament_of((3, ()), ()), ((0, 1), (0, 2), (1, 2)))
        self.assertEqual(tournament_of((3, ((), (0, 1, 2))), ((0, 0, 0), (0, 0, 0))), ((0, 1), (0, 2), (1, 2)))

    def test_third_elements_in_both_directions(self):
        # No set parts 2 and 3; 2 before 0 and 0 before 3, but 3 before 1 and 1 before 2.
        system, sides = (4, ((0,), (1,))), ((0, -1, 1, -1), (1, 0, -1, 1))
        self.assertEqual(required_pairs(system, sides), [(0, 1), (0, 3), (1, 2), (2, 0), (3, 1)])
        self.assertEqual(decided_by_words(system, sides)[1], {"required", "both"})
        self.assertEqual(tournament_of(system, sides), ((0, 1), (0, 3), (1, 2), (2, 0), (2, 3), (3, 1)))
        # The same with 2 and 3 exchanged: the pair with the smaller element first is taken again.
        sides = ((0, -1, -1, 1), (1, 0, 1, -1))
        self.assertEqual(decided_by_words(system, sides)[1], {"required", "both"})
        self.assertIn((2, 3), tournament_of(system, sides))

    def test_a_decided_order_decides_nothing_further(self):
        # 0 before 1 and 1 before 2 are only decided: between 2 and 0 stands 5 alone, and 1 is not asked.
        system = (6, ((3,), (4,), (5,)))
        sides = ((1, -1, 1, 0, 1, 1), (-1, 1, -1, -1, 0, -1), (-1, 1, 1, -1, 1, 0))
        found = tournament_of(system, sides)
        self.assertEqual([pair for pair in found if max(pair) < 3], [(0, 1), (1, 2), (2, 0)])
        self.assertEqual(found, decided_by_words(system, sides)[0])

    def test_one_element(self):
        self.assertEqual(tournament_of((1, ()), ()), ())
        self.assertEqual(tournament_of((1, ((0,), ())), ((0,), (0,))), ())

    def test_contradictory_sides_have_none(self):
        system = (3, ((0,), (1,), (2,)))
        self.assertIsNone(tournament_of(system, ((0, -1, 1), (1, 0, -1), (1, 1, 0))))
        self.assertIsNone(tournament_of((2, ((0,), (1,))), ((0, 1), (1, 0))))

    def test_eight_elements(self):
        up = tuple((x, y) for x in range(8) for y in range(x + 1, 8))
        self.assertEqual(tournament_of((8, ()), ()), up)
        last = tuple(sorted([(x, y) for x, y in up if x > 0] + [(x, 0) for x in range(1, 8)]))
        self.assertEqual(tournament_of((8, ((0,),)), ((0,) + (1,) * 7,)), last)

    def test_sides_of_a_row_have_a_tournament_without_circle(self):
        for system in EDGE_SYSTEMS + LARGE_SYSTEMS:
            for row in keeping_rows(system) if system[0] < 6 else []:
                found = tournament_of(system, sides_of(system, row))
                self.assertIs(has_circle_of_any_length(system[0], found), False, (system, row))
        singles = (5, tuple((x,) for x in range(5)))
        for row in keeping_rows(singles):
            self.assertEqual(tournament_of(singles, sides_of(singles, row)), tournament_of_row(row))


if __name__ == "__main__":
    unittest.main()
