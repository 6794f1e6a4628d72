"""Points 24 and 57 to 59: the rows of sides and of systems, and answers about a system."""

import unittest
from itertools import combinations
from random import Random

from kepttogether.chains import accepts_refutation, refutation
from kepttogether.deciding import tournament_of
from kepttogether.solving import accepts, row_of_sides, solve
from kepttogether.tournaments import row_of
from support import (
    EDGE_SYSTEMS, LARGE_SYSTEMS, SMALL_SYSTEMS, all_sides, all_systems, are_consistent, does_keep, drawn_chain,
    drawn_sides, drawn_systems, ends, has, has_circle_of_any_length, is_right_chain, keeping_rows, linked_pairs, pairs,
    required_pairs, rows, systems_and_sides,
)

THREE = (3, ((0, 1), (1, 2), (0, 2)))
ROUND = (3, ((0,), (1,), (2,)))
ROUND_ABOUT = ((0, -1, 1), (1, 0, -1), (-1, 1, 0))
AGAINST = ((0, -1, 1), (1, 0, -1), (1, 1, 0))
MANY_SYSTEMS = SMALL_SYSTEMS + all_systems(3, 3)[::3] + drawn_systems(60, 4, 5, 5, "solving")
FEW_SYSTEMS = EDGE_SYSTEMS + all_systems(3, 2)[::5] + drawn_systems(25, 3, 5, 5, "few answers") + [
    THREE, (4, ((0, 1), (1, 2), (2, 3), (0, 3))),
]


def tournament_by_words(system):
    """Point 58: of each class and the class of the reverses, the one that has the first pair of both."""
    linked = linked_pairs(system)
    found = []
    for x, y in combinations(range(system[0]), 2):
        both = sorted(linked[(x, y)] | linked[(y, x)])
        found.append((x, y) if both[0] in linked[(x, y)] else (y, x))
    return tuple(sorted(found))


def has_circle_of_three(system, sides):
    asked = set(required_pairs(system, sides))
    return any((y, z) in asked and (z, x) in asked for x, y in asked for z in range(system[0]))


class RowsOfSides(unittest.TestCase):
    """Points 24 and 57."""

    def test_there_is_one_exactly_if_the_sides_are_consistent(self):
        both = {True: 0, False: 0}
        for system, sides in systems_and_sides():
            found = row_of_sides(system, sides)
            consistent = are_consistent(system, sides)
            self.assertIs(found is not None, consistent, (system, sides))
            both[consistent] += 1
            if found is not None:
                self.assertEqual(found, row_of(system[0], tournament_of(system, sides)))
                self.assertEqual(sorted(found), list(range(system[0])))
                self.assertIs(does_keep(system, found), True, (system, sides))
        self.assertGreater(min(both.values()), 100)

    def test_it_respects_the_sides_if_some_row_does_and_if_there_is_no_circle(self):
        both = {True: 0, False: 0}
        for system, sides in systems_and_sides():
            if system[0] < 6 and are_consistent(system, sides):
                asked = required_pairs(system, sides)
                found = row_of_sides(system, sides)
                respected = all(has(found, pair) for pair in asked)
                some = any(all(has(row, pair) for pair in asked) for row in rows(system[0]))
                self.assertIs(respected, some, (system, sides))
                self.assertIs(respected, not has_circle_of_three(system, sides), (system, sides))
                self.assertIs(respected, not has_circle_of_any_length(system[0], asked), (system, sides))
                both[respected] += 1
        self.assertGreater(min(both.values()), 20)

    def test_decided_by_third_elements(self):
        # The row respects the sides only if what stands between two elements decides their order.
        singles = (5, ((0,), (1,)))
        for row in rows(5):
            sides = tuple(tuple(0 if x == z else 1 if has(row, (x, z)) else -1 for x in range(5)) for z in (0, 1))
            found = row_of_sides(singles, sides)
            self.assertTrue(all(has(found, pair) for pair in required_pairs(singles, sides)), row)

    def test_consistent_sides_with_a_circle(self):
        self.assertEqual(row_of_sides(ROUND, ROUND_ABOUT), (0, 1, 2))
        self.assertIs(has_circle_of_three(ROUND, ROUND_ABOUT), True)

    def test_contradictory_sides(self):
        self.assertIsNone(row_of_sides(ROUND, AGAINST))

    def test_whenever_there_are_consistent_sides_some_row_keeps_the_system(self):
        for system in EDGE_SYSTEMS + all_systems(3, 3)[::3] + [(4, ((0, 1), (1, 2), (2, 3), (0, 3)))]:
            free = sum(system[0] - len(chosen) for chosen in system[1] if chosen)
            if free <= 9:
                found = [row_of_sides(system, sides) for sides in all_sides(system)]
                self.assertIs(any(row is not None for row in found), keeping_rows(system) != [], system)

    def test_edges(self):
        self.assertEqual(row_of_sides((1, ()), ()), (0,))
        self.assertEqual(row_of_sides((1, ((0,), ())), ((0,), (0,))), (0,))
        self.assertEqual(row_of_sides((8, ()), ()), tuple(range(8)))
        self.assertEqual(row_of_sides((8, ((7,),)), ((-1,) * 7 + (0,),)), (7, 0, 1, 2, 3, 4, 5, 6))

    def test_large_systems(self):
        for system in LARGE_SYSTEMS:
            for sides in drawn_sides(system, 30, "large rows"):
                found = row_of_sides(system, sides)
                self.assertIs(found is not None, are_consistent(system, sides))
                if found is not None:
                    self.assertIs(does_keep(system, found), True)


class Solving(unittest.TestCase):
    """Point 58."""

    def test_systems(self):
        both = {"row": 0, "chain": 0}
        for system in MANY_SYSTEMS + LARGE_SYSTEMS:
            word, found = solve(system)
            linked = linked_pairs(system)
            if any(pair[::-1] in linked[pair] for pair in pairs(system[0])):
                self.assertEqual(word, "chain", system)
                self.assertIs(is_right_chain(system, found), True)
                self.assertEqual(ends(found)[1], found[0][::-1])
                self.assertIs(accepts_refutation(system, found), True)
            else:
                self.assertEqual(word, "row", system)
                self.assertEqual(found, row_of(system[0], tournament_by_words(system)), system)
                self.assertIs(does_keep(system, found), True, system)
            both[word] += 1
        self.assertGreater(min(both.values()), 10)

    def test_there_is_a_row_if_some_row_keeps_the_system(self):
        for system in MANY_SYSTEMS:
            kept = keeping_rows(system)
            self.assertEqual(solve(system)[0], "row" if kept else "chain", system)
            self.assertTrue(not kept or solve(system)[1] in kept)

    def test_edges(self):
        self.assertEqual(solve((1, ())), ("row", (0,)))
        self.assertEqual(solve((1, ((0,), ()))), ("row", (0,)))
        self.assertEqual(solve((8, ())), ("row", tuple(range(8))))
        self.assertEqual(solve((8, (tuple(range(8)),) * 8)), ("row", tuple(range(8))))
        # All rows, and two rows.
        self.assertEqual(solve((3, ((0,), (1,)))), ("row", (0, 1, 2)))
        self.assertEqual(solve((3, ((0, 2), (1, 2)))), ("row", (0, 2, 1)))
        self.assertEqual(solve((4, ((1, 3), (0, 3), (0, 2)))), ("row", (2, 0, 3, 1)))

    def test_a_system_that_no_row_keeps(self):
        for system in [THREE, (8, tuple((x, x + 1) for x in range(7)) + ((0, 7),))]:
            word, chain = solve(system)
            self.assertEqual((word, chain), ("chain", refutation(system)))


class Judge(unittest.TestCase):
    """Point 59."""

    def test_rows(self):
        both = {True: 0, False: 0}
        for system in FEW_SYSTEMS:
            for row in rows(system[0]):
                self.assertIs(accepts(system, ("row", row)), does_keep(system, row), (system, row))
                both[does_keep(system, row)] += 1
                self.assertIs(accepts(system, ("chain", row)), False)
        self.assertGreater(min(both.values()), 100)

    def test_chains(self):
        draw, accepted = Random("answers"), 0
        for system in FEW_SYSTEMS:
            for _ in range(25 if system[1] and system[0] > 1 else 0):
                chain = drawn_chain(system, draw.randint(0, 8), draw, True)
                shows = is_right_chain(system, chain) and ends(chain)[1] == chain[0][::-1]
                self.assertIs(accepts(system, ("chain", chain)), shows, (system, chain))
                self.assertIs(accepts(system, ("row", chain)), False)
                accepted += shows
        self.assertGreater(accepted, 5)

    def test_answers_of_exactly_one_word_are_accepted_and_there_is_one(self):
        for system in MANY_SYSTEMS + LARGE_SYSTEMS:
            word, found = solve(system)
            self.assertIs(accepts(system, (word, found)), True, system)
            some_row = any(accepts(system, ("row", row)) for row in rows(system[0])[:1000])
            self.assertFalse(word == "chain" and some_row)
            if word == "row":
                self.assertIsNone(refutation(system))

    def test_wrong_answers(self):
        row, chain = solve((3, THREE[1][:2])), solve(THREE)
        self.assertIs(accepts((3, THREE[1][:2]), row), True)
        self.assertIs(accepts(THREE, chain), True)
        self.assertIs(accepts((3, THREE[1][:2]), chain), False)
        self.assertIs(accepts(THREE, row), False)
        for system, (word, found) in [((3, THREE[1][:2]), row), (THREE, chain)]:
            for value in [
                (word,), (word, found, ()), [word, found], (found, word), (word, list(found)), (word, None), found,
                word, (word + " ", found), ("", found), (None, found), (("row",), found), ([word], found),
                (True, found), None, (),
            ]:
                self.assertIs(accepts(system, value), False, value)


if __name__ == "__main__":
    unittest.main()
