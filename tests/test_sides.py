"""Points 19 to 26: sides, what they require, contradictions, circles, and the evidence for them."""

import unittest
from itertools import permutations, product

from kepttogether.sides import (
    circle, contradiction, is_sides, required, respects, shows_circle, shows_contradiction, sides_of,
)
from kepttogether.systems import keeps, renamed, renamed_row
from support import (
    EDGE_SYSTEMS, LARGE_SYSTEMS, all_sides, all_systems, are_consistent, drawn_sides, drawn_systems,
    has_circle_of_any_length, is_sides_by_words, keeping_rows, pairs, required_pairs, rows, sets_requiring,
    systems_and_sides,
)

ROUND = (3, ((0,), (1,), (2,)))
ROUND_ABOUT = ((0, -1, 1), (1, 0, -1), (-1, 1, 0))
AGAINST = ((0, -1, 1), (1, 0, -1), (1, 1, 0))


def few_sides(system):
    free = sum(system[0] - len(chosen) for chosen in system[1] if chosen)
    return all_sides(system) if free <= 6 else drawn_sides(system, 30, "few")


FEW_SYSTEMS = EDGE_SYSTEMS + all_systems(3, 2)[::4] + drawn_systems(25, 3, 5, 3, "sides of")


class Forms(unittest.TestCase):
    """Point 19."""

    def test_sides(self):
        for system, sides in systems_and_sides():
            self.assertIs(is_sides(system, sides), True, (system, sides))

    def test_all_numbers_that_can_be_told(self):
        for system in all_systems(3, 1):
            for numbers in product((-2, -1, 0, 1, 2), repeat=3):
                self.assertIs(is_sides(system, (numbers,)), is_sides_by_words(system, (numbers,)), (system, numbers))

    def test_edges(self):
        self.assertIs(is_sides((1, ()), ()), True)
        self.assertIs(is_sides((1, ((0,), ())), ((0,), (0,))), True)
        self.assertIs(is_sides((3, ((),)), ((0, 0, 0),)), True)
        self.assertIs(is_sides((3, ((),)), ((1, 0, 0),)), False)
        self.assertIs(is_sides((3, ((0, 1, 2),)), ((0, 0, 0),)), True)
        self.assertIs(is_sides((3, ((0, 1, 2),)), ((0, 0, -1),)), False)
        self.assertIs(is_sides((8, ((7,),) * 8), ((1, -1, 1, -1, 1, 1, 1, 0),) * 8), True)

    def test_wrong_sides(self):
        good = (0, 0, 1)
        self.assertIs(is_sides((3, ((0, 1),)), (good,)), True)
        for value in [
            None, 0, "", (), [good], ([0, 0, 1],), (good, good), ((0, 0),), ((0, 0, 1, 1),), ((0, 0, 0),), ((1, 0, 1),),
            ((0, 0, True),), ((False, 0, 1),), ((0, 0, "1"),), ((0, 0, None),), ((0, 0, 2),), (None,), (0, 0, 1),
        ]:
            self.assertIs(is_sides((3, ((0, 1),)), value), False, value)


class Requiring(unittest.TestCase):
    """Point 20."""

    def test_required_pairs(self):
        for system, sides in systems_and_sides():
            self.assertEqual(required(system, sides), tuple(required_pairs(system, sides)), (system, sides))

    def test_both_ways_of_requiring(self):
        self.assertEqual(required((4, ((2, 3),)), ((-1, 1, 0, 0),)), ((1, 2), (1, 3), (2, 0), (3, 0)))

    def test_an_order_is_required_if_a_set_has_exactly_one_of_the_two(self):
        for system, sides in systems_and_sides():
            found = required(system, sides)
            for x, y in pairs(system[0]):
                parted = any((x in chosen) != (y in chosen) for chosen in system[1])
                self.assertIs((x, y) in found or (y, x) in found, parted, (system, sides))

    def test_nothing_is_required_by_trivial_sets(self):
        self.assertEqual(required((4, ((), (0, 1, 2, 3))), ((0,) * 4,) * 2), ())
        self.assertEqual(required((8, ()), ()), ())
        self.assertEqual(required((1, ((0,),)), ((0,),)), ())


class Contradictions(unittest.TestCase):
    """Point 21."""

    def test_first_contradictions(self):
        both = {True: 0, False: 0}
        for system, sides in systems_and_sides():
            found = [
                ((x, y), sets_requiring(system, sides, (x, y))[0], sets_requiring(system, sides, (y, x))[0])
                for x, y in pairs(system[0])
                if x < y and sets_requiring(system, sides, (x, y)) and sets_requiring(system, sides, (y, x))
            ]
            self.assertEqual(contradiction(system, sides), found[0] if found else None, (system, sides))
            both[found == []] += 1
        self.assertGreater(min(both.values()), 100)

    def test_the_first_sets_are_told(self):
        system = (3, ((2,), (0,), (0,), (1,), (1,)))
        sides = ((1, 1, 0), (0, -1, -1), (0, -1, -1), (-1, 0, -1), (-1, 0, -1))
        self.assertEqual(contradiction(system, sides), ((0, 1), 1, 3))
        self.assertEqual(contradiction(ROUND, AGAINST), ((0, 2), 2, 0))


class Circles(unittest.TestCase):
    """Point 22."""

    def test_first_circles(self):
        both = {True: 0, False: 0}
        for system, sides in systems_and_sides():
            found = set(required_pairs(system, sides))
            circles = [(x, y, z) for x, y, z in permutations(range(system[0]), 3) if {(x, y), (y, z), (z, x)} <= found]
            self.assertEqual(circle(system, sides), min(circles) if circles else None, (system, sides))
            both[circles == []] += 1
        self.assertGreater(min(both.values()), 100)

    def test_consistent_sides_have_a_circle_if_they_have_one_of_any_length(self):
        both = {True: 0, False: 0}
        systems = all_systems(3, 3)[::3] + [(4, ((0,), (1,), (2,), (3,))), (4, ((0, 1), (2,), (3,)))] + EDGE_SYSTEMS
        for system in systems:
            for sides in few_sides(system) if system[0] < 4 else all_sides(system):
                if contradiction(system, sides) is None:
                    long = has_circle_of_any_length(system[0], required(system, sides))
                    self.assertIs(circle(system, sides) is not None, long, (system, sides))
                    both[long] += 1
        self.assertGreater(min(both.values()), 10)

    def test_circles_of_contradictory_sides(self):
        sides = ROUND_ABOUT + ((1, 0, 1),)
        system = (3, ROUND[1] + ((1,),))
        self.assertEqual(contradiction(system, sides), ((1, 2), 1, 3))
        self.assertEqual(circle(system, sides), (0, 1, 2))

    def test_a_first_circle_that_does_not_ascend(self):
        self.assertEqual(circle(ROUND, ((0, 1, -1), (-1, 0, 1), (1, -1, 0))), (0, 2, 1))
        self.assertIs(circle(ROUND, ((0, -1, -1), (1, 0, -1), (1, 1, 0))), None)


class Respecting(unittest.TestCase):
    """Points 23 and 24."""

    def test_respects(self):
        for system in FEW_SYSTEMS:
            for sides in few_sides(system)[:40]:
                found = required_pairs(system, sides)
                for row in rows(system[0])[::3]:
                    expected = all(row.index(x) < row.index(y) for x, y in found)
                    self.assertIs(respects(system, sides, row), expected, (system, sides, row))

    def test_a_row_need_not_keep_the_system_to_be_asked(self):
        self.assertIs(respects((3, ((0, 2),)), ((0, 1, 0),), (0, 1, 2)), False)
        self.assertIs(respects((3, ((0, 2),)), ((0, 1, 0),), (1, 2, 0)), True)

    def test_no_row_respects_contradictory_sides_or_a_circle(self):
        for system in FEW_SYSTEMS:
            for sides in few_sides(system):
                if contradiction(system, sides) is not None or circle(system, sides) is not None:
                    self.assertFalse(any(respects(system, sides, row) for row in rows(system[0])), (system, sides))

    def test_a_keeping_row_respects_exactly_its_sides(self):
        for system in FEW_SYSTEMS:
            free = sum(system[0] - len(chosen) for chosen in system[1] if chosen)
            for row in keeping_rows(system) if free <= 6 else []:
                respected = [sides for sides in all_sides(system) if respects(system, sides, row)]
                self.assertEqual([sides_of(system, row)], respected, (system, row))

    def test_the_sides_of_a_row_are_consistent_and_without_circle(self):
        for system in FEW_SYSTEMS + LARGE_SYSTEMS:
            for row in [row for row in rows(system[0])[::1 if system[0] < 6 else 997] if keeps(system, row)]:
                sides = sides_of(system, row)
                self.assertIs(is_sides(system, sides), True)
                self.assertIs(respects(system, sides, row), True)
                self.assertIsNone(contradiction(system, sides))
                self.assertIsNone(circle(system, sides))

    def test_sides_of_edges(self):
        self.assertEqual(sides_of((1, ((0,), ())), (0,)), ((0,), (0,)))
        self.assertEqual(sides_of((3, ()), (2, 0, 1)), ())
        self.assertEqual(sides_of((3, ((), (0, 1, 2), (0,))), (2, 0, 1)), ((0, 0, 0), (0, 0, 0), (0, -1, 1)))

    def test_consistent_sides_that_no_row_respects(self):
        self.assertIsNone(contradiction(ROUND, ROUND_ABOUT))
        self.assertFalse(any(respects(ROUND, ROUND_ABOUT, row) for row in rows(3)))

    def test_some_row_keeps_a_system_that_has_consistent_sides(self):
        for system in FEW_SYSTEMS + all_systems(3, 3)[::3] + [(4, ((0, 1), (1, 2), (2, 3), (0, 3)))]:
            consistent = any(contradiction(system, sides) is None for sides in all_sides(system))
            self.assertIs(consistent, keeping_rows(system) != [], system)


class Evidence(unittest.TestCase):
    """Points 22 and 25."""

    def test_evidence_of_contradictions(self):
        accepted = 0
        for system, sides in systems_and_sides()[::15]:
            many = range(-1, len(system[1]) + 1)
            for x, y in product(range(-1, system[0] + 1), repeat=2):
                exists = (x, y) in pairs(system[0])
                there = sets_requiring(system, sides, (x, y)) if exists else []
                back = sets_requiring(system, sides, (y, x)) if exists else []
                for ahead, behind in product(many, repeat=2):
                    shows = ahead in there and behind in back
                    value = ((x, y), ahead, behind)
                    self.assertIs(shows_contradiction(system, sides, value), shows, (system, sides, value))
                    accepted += shows
        self.assertGreater(accepted, 100)

    def test_evidence_of_circles(self):
        accepted = 0
        for system, sides in systems_and_sides()[::7]:
            found = required_pairs(system, sides)
            for x, y, z in product(range(-1, system[0] + 1), repeat=3):
                shows = (x, y) in found and (y, z) in found and (z, x) in found
                self.assertIs(shows_circle(system, sides, (x, y, z)), shows, (system, sides, (x, y, z)))
                accepted += shows
        self.assertGreater(accepted, 100)

    def test_each_turn_of_a_circle_is_a_circle(self):
        for value in [(0, 1, 2), (1, 2, 0), (2, 0, 1)]:
            self.assertIs(shows_circle(ROUND, ROUND_ABOUT, value), True)
        wrong = [(0, 2, 1), (0, 1, 0), (0, 0, 0), (0, 1), (0, 1, 2, 0), (0, 1, 3), (0, 1, -1)]
        for value in wrong + [[0, 1, 2], (False, True, 2), (0, 1, "2"), None]:
            self.assertIs(shows_circle(ROUND, ROUND_ABOUT, value), False)

    def test_evidence_that_is_not_the_first_contradiction(self):
        for value in [((0, 2), 2, 0), ((2, 0), 0, 2), ((1, 2), 1, 2)]:
            self.assertIs(shows_contradiction(ROUND, AGAINST, value), value != ((1, 2), 1, 2))
        wrong = [((0, 2), 0, 2), ((0, 2), 2), ((0, 2), 2, 0, 0), ((0, 2), 2, -3), ((0, 2), -1, 0), ((0, -1), 2, 0)]
        wrong += [[(0, 2), 2, 0], ([0, 2], 2, 0), ((0, 2), 2, False), ((False, 2), 2, 0), ((0, 2, 2), 2, 0), None, True]
        for value in wrong:
            self.assertIs(shows_contradiction(ROUND, AGAINST, value), False, value)

    def test_the_first_contradiction_and_the_first_circle_are_evidence(self):
        for system, sides in systems_and_sides():
            found, about = contradiction(system, sides), circle(system, sides)
            if found is not None:
                (x, y), ahead, behind = found
                self.assertIs(shows_contradiction(system, sides, found), True)
                self.assertIs(shows_contradiction(system, sides, ((y, x), behind, ahead)), True)
            if about is not None:
                self.assertIs(shows_circle(system, sides, about), True)

    def test_the_judge_looks_at_no_other_set(self):
        for numbers in product((1, -1), repeat=2):
            sides = (AGAINST[0], (numbers[0], 0, numbers[1]), AGAINST[2])
            self.assertIs(shows_contradiction(ROUND, sides, ((0, 2), 2, 0)), True)


class Turning(unittest.TestCase):
    """Point 26."""

    def test_turning_all_numbers_turns_all_required_pairs(self):
        for system, sides in systems_and_sides():
            turned = tuple(tuple(-number for number in numbers) for numbers in sides)
            back = tuple(sorted((y, x) for x, y in required(system, sides)))
            self.assertEqual(required(system, turned), back)
            self.assertIs(contradiction(system, turned) is None, are_consistent(system, sides))

    def test_renaming_renames_all_required_pairs(self):
        for system, sides in systems_and_sides()[::3]:
            size = system[0]
            for order in rows(size)[1::max(1, len(rows(size)) // 4)]:
                other = tuple(tuple(numbers[order.index(y)] for y in range(size)) for numbers in sides)
                pairs_then = tuple(sorted((order[x], order[y]) for x, y in required(system, sides)))
                self.assertEqual(required(renamed(system, order), other), pairs_then)

    def test_sides_of_a_renamed_row(self):
        system, order = (4, ((1, 2), (3,))), (2, 0, 3, 1)
        for row in keeping_rows(system):
            sides = sides_of(system, row)
            other = tuple(tuple(numbers[order.index(y)] for y in range(4)) for numbers in sides)
            self.assertEqual(sides_of(renamed(system, order), renamed_row(row, order)), other)


if __name__ == "__main__":
    unittest.main()
