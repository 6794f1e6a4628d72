"""Points 30 to 38: steps, links, classes, contradictory systems, and the number of consistent sides."""

import unittest

from kepttogether.links import (
    are_linked, class_of, contradictory_pair, count_sides, is_contradictory, listed_classes, steps_from,
)
from kepttogether.systems import keeps, renamed
from support import (
    EDGE_SYSTEMS, LARGE_SYSTEMS, SMALL_SYSTEMS, all_sides, all_systems, are_consistent, drawn_sides, drawn_systems,
    has, keeping_rows, leads, linked_pairs, pairs, required_pairs, rows, subsets,
)

MANY_SYSTEMS = SMALL_SYSTEMS + all_systems(3, 3)[::3] + drawn_systems(60, 4, 5, 5, "links") + drawn_systems(
    20, 4, 5, 8, "more links",
)
FEW_SYSTEMS = EDGE_SYSTEMS + all_systems(3, 2)[::4] + drawn_systems(30, 4, 5, 4, "few links")
THREE = (3, ((0, 1), (1, 2), (0, 2)))


class Steps(unittest.TestCase):
    """Point 30."""

    def test_steps(self):
        for system in MANY_SYSTEMS + LARGE_SYSTEMS:
            for pair in pairs(system[0]):
                expected = [
                    (index, after) for index, chosen in enumerate(system[1]) for after in pairs(system[0])
                    if leads(chosen, pair, after)
                ]
                self.assertEqual(steps_from(system, pair), expected, (system, pair))

    def test_the_element_that_stays_is_the_first_or_the_second(self):
        system = (4, ((1, 2, 3),))
        self.assertEqual(steps_from(system, (0, 1)), [(0, (0, 2)), (0, (0, 3))])
        self.assertEqual(steps_from(system, (2, 0)), [(0, (1, 0)), (0, (3, 0))])
        self.assertEqual(steps_from(system, (1, 2)), [])

    def test_equal_sets_lead_alike(self):
        self.assertEqual(steps_from((3, ((1, 2),) * 2), (0, 1)), [(0, (0, 2)), (1, (0, 2))])

    def test_both_elements_can_be_exchanged_by_different_sets(self):
        system = (4, ((2, 3), (0, 1)))
        self.assertEqual(steps_from(system, (0, 2)), [(0, (0, 3)), (1, (1, 2))])

    def test_no_steps(self):
        for system in [(2, ((0,), (1,), (0, 1), ())), (3, ((), (0,), (0, 1, 2))), (8, ())]:
            for pair in pairs(system[0]):
                self.assertEqual(steps_from(system, pair), [], (system, pair))

    def test_a_changed_list_changes_no_later_result(self):
        found = steps_from(THREE, (0, 1))
        kept = list(found)
        found.append((0, (1, 0)))
        found[0] = None
        self.assertEqual(steps_from(THREE, (0, 1)), kept)
        self.assertIsNot(steps_from(THREE, (0, 1)), steps_from(THREE, (0, 1)))


class Links(unittest.TestCase):
    """Points 31 and 34."""

    def test_classes(self):
        for system in MANY_SYSTEMS + LARGE_SYSTEMS:
            linked = linked_pairs(system)
            for pair in pairs(system[0]):
                self.assertEqual(class_of(system, pair), tuple(sorted(linked[pair])), (system, pair))

    def test_are_linked(self):
        both = {True: 0, False: 0}
        for system in FEW_SYSTEMS + drawn_systems(3, 7, 8, 4, "are linked"):
            linked = linked_pairs(system)
            for pair in pairs(system[0]):
                for other in pairs(system[0]):
                    self.assertIs(are_linked(system, pair, other), other in linked[pair], (system, pair, other))
                    both[other in linked[pair]] += 1
        self.assertGreater(min(both.values()), 100)

    def test_a_pair_is_linked_to_itself_without_a_step(self):
        for pair in pairs(4):
            self.assertIs(are_linked((4, ()), pair, pair), True)
            self.assertEqual(class_of((4, ()), pair), (pair,))

    def test_links_hold_in_both_directions_and_for_the_reverses(self):
        for system in FEW_SYSTEMS:
            for pair in pairs(system[0]):
                for other in class_of(system, pair):
                    self.assertIs(are_linked(system, other, pair), True)
                    self.assertIs(are_linked(system, pair[::-1], other[::-1]), True)

    def test_pairs_that_are_not_linked(self):
        self.assertIs(are_linked((4, ((2, 3),)), (0, 2), (3, 0)), False)
        self.assertIs(are_linked((4, ((2, 3),)), (0, 2), (1, 2)), False)
        self.assertIs(are_linked((4, ((2, 3),)), (0, 2), (0, 3)), True)


class Agreeing(unittest.TestCase):
    """Points 32 and 37, against all keeping rows."""

    def test_linked_pairs_agree_in_each_keeping_row_and_other_pairs_do_not(self):
        met = 0
        for system in MANY_SYSTEMS:
            kept = keeping_rows(system)
            # Point 37 is told of systems that are not contradictory.
            for pair in pairs(system[0]) if kept else []:
                agreeing = [
                    other for other in pairs(system[0]) if all(has(row, pair) == has(row, other) for row in kept)
                ]
                self.assertEqual(list(class_of(system, pair)), agreeing, (system, pair))
                met += len(agreeing) > 1
        self.assertGreater(met, 500)

    def test_consistent_sides_require_all_linked_pairs(self):
        met = 0
        for system in FEW_SYSTEMS:
            sides_of_it = drawn_sides(system, 60, "agreeing") if system[0] > 3 else all_sides(system)
            for sides in [sides for sides in sides_of_it if are_consistent(system, sides)]:
                asked = required_pairs(system, sides)
                for pair in asked:
                    self.assertEqual(set(class_of(system, pair)) - set(asked), set(), (system, sides, pair))
                    met += 1
        self.assertGreater(met, 100)


class Contradictory(unittest.TestCase):
    """Point 33."""

    def test_contradictory_systems(self):
        both = {True: 0, False: 0}
        for system in MANY_SYSTEMS:
            linked = linked_pairs(system)
            found = [pair for pair in pairs(system[0]) if pair[::-1] in linked[pair]]
            self.assertEqual(contradictory_pair(system), found[0] if found else None, system)
            self.assertIs(is_contradictory(system), found != [], system)
            self.assertIs(is_contradictory(system), keeping_rows(system) == [], system)
            both[found == []] += 1
        self.assertGreater(min(both.values()), 10)

    def test_large_systems(self):
        for system in LARGE_SYSTEMS:
            linked = linked_pairs(system)
            found = [pair for pair in pairs(system[0]) if pair[::-1] in linked[pair]]
            self.assertEqual(contradictory_pair(system), found[0] if found else None, system)
        self.assertIs(is_contradictory((8, tuple((x, x + 1) for x in range(7)))), False)
        self.assertIs(is_contradictory((8, tuple((x, x + 1) for x in range(7)) + ((0, 7),))), True)

    def test_contradictory_if_no_sides_are_consistent(self):
        for system in FEW_SYSTEMS + [THREE, (4, ((0, 1), (1, 2), (2, 3), (0, 3)))]:
            free = sum(system[0] - len(chosen) for chosen in system[1] if chosen)
            if free <= 9:
                consistent = any(are_consistent(system, sides) for sides in all_sides(system))
                self.assertIs(is_contradictory(system), not consistent, system)

    def test_the_first_pair_is_told(self):
        self.assertEqual(contradictory_pair(THREE), (0, 1))
        self.assertEqual(contradictory_pair((5, ((2, 3), (3, 4), (2, 4)))), (2, 3))
        self.assertIsNone(contradictory_pair((3, ((0, 1), (1, 2)))))

    def test_one_element(self):
        for system in [(1, ()), (1, ((),)), (1, ((0,), ()) * 4)]:
            self.assertIsNone(contradictory_pair(system))
            self.assertIs(is_contradictory(system), False)
            self.assertEqual(listed_classes(system), [])
            self.assertEqual(count_sides(system), 1)


class ListedClasses(unittest.TestCase):
    """Point 34."""

    def test_listed_classes(self):
        for system in MANY_SYSTEMS + LARGE_SYSTEMS:
            linked = linked_pairs(system)
            if any(pair[::-1] in linked[pair] for pair in pairs(system[0])):
                self.assertIsNone(listed_classes(system), system)
                continue
            found = []
            for x, y in pairs(system[0]):
                one, other = sorted(linked[(x, y)]), sorted(linked[(y, x)])
                if x < y and one[0] == (x, y) and one[0] < other[0]:
                    found.append(tuple(one))
            self.assertEqual(listed_classes(system), found, system)

    def test_each_pair_or_its_reverse_is_in_exactly_one(self):
        for system in MANY_SYSTEMS:
            for x, y in pairs(system[0]) if not is_contradictory(system) else []:
                there = [linked for linked in listed_classes(system) if (x, y) in linked or (y, x) in linked]
                self.assertEqual(len(there), 1)
                self.assertNotEqual((x, y) in there[0], (y, x) in there[0])

    def test_the_first_pair_of_each_has_its_lesser_element_first(self):
        for system in MANY_SYSTEMS:
            found = [] if is_contradictory(system) else listed_classes(system)
            self.assertTrue(all(linked[0][0] < linked[0][1] for linked in found))
            self.assertEqual(found, sorted(found))

    def test_a_listed_class_can_have_a_pair_with_its_greater_element_first(self):
        self.assertEqual(listed_classes((3, ((0, 2), (1, 2)))), [((0, 1), (0, 2), (2, 1))])

    def test_a_changed_list_changes_no_later_result(self):
        system = (3, ((0, 1), (1, 2)))
        found = listed_classes(system)
        kept = list(found)
        found.append(None)
        found[0] = ()
        self.assertEqual(listed_classes(system), kept)
        self.assertEqual(count_sides(system), 2)


class Counting(unittest.TestCase):
    """Point 35."""

    def test_against_all_sides(self):
        both = {True: 0, False: 0}
        circles = [(4, ((0, 1), (1, 2), (2, 3), (0, 3))), (4, ((0, 1), (1, 2), (0, 2), (3,)))]
        for system in SMALL_SYSTEMS + all_systems(3, 3)[::3] + circles:
            free = sum(system[0] - len(chosen) for chosen in system[1] if chosen)
            if free <= 9:
                counted = sum(are_consistent(system, sides) for sides in all_sides(system))
                self.assertEqual(count_sides(system), counted, system)
                both[counted == 0] += 1
        self.assertGreater(min(both.values()), 5)

    def test_classes_that_no_set_parts_do_not_count(self):
        self.assertEqual(count_sides((8, ())), 1)
        self.assertEqual(count_sides((8, ((), tuple(range(8))))), 1)
        self.assertEqual(count_sides((3, ((0,),))), 4)
        self.assertEqual(count_sides((4, ((2, 3),))), 4)

    def test_many(self):
        self.assertEqual(count_sides((8, tuple((x,) for x in range(8)))), 2 ** 28)
        self.assertEqual(count_sides(THREE), 0)


class Adding(unittest.TestCase):
    """Point 36."""

    def test_linked_pairs_stay_linked(self):
        for system in FEW_SYSTEMS:
            for chosen in subsets(system[0])[::3] if len(system[1]) < 8 else []:
                more = (system[0], system[1] + (chosen,))
                for pair in pairs(system[0]):
                    self.assertEqual(set(class_of(system, pair)) - set(class_of(more, pair)), set(), (more, pair))

    def test_sets_that_link_nothing(self):
        for system in FEW_SYSTEMS:
            size, sets = system
            for chosen in [(), tuple(range(size)), (0,), (size - 1,), *sets[:2]] if len(sets) < 8 else []:
                for pair in pairs(size):
                    self.assertEqual(class_of((size, sets + (chosen,)), pair), class_of(system, pair))
                    self.assertEqual(class_of((size, (chosen,) + sets), pair), class_of(system, pair))


class Renaming(unittest.TestCase):
    """Point 38."""

    def test_renaming_renames_the_links(self):
        for system in FEW_SYSTEMS:
            for order in rows(system[0])[1::max(1, len(rows(system[0])) // 3)]:
                for x, y in pairs(system[0]):
                    expected = tuple(sorted((order[a], order[b]) for a, b in class_of(system, (x, y))))
                    self.assertEqual(class_of(renamed(system, order), (order[x], order[y])), expected)


class PointForty(unittest.TestCase):
    """Point 40, and what keeps the rows of its systems."""

    def test_the_steps_of_the_example(self):
        system = (3, ((0, 1), (1, 2)))
        self.assertIn((1, (0, 2)), steps_from(system, (0, 1)))
        self.assertIn((0, (1, 2)), steps_from(system, (0, 2)))
        self.assertIn((2, (1, 0)), steps_from(THREE, (1, 2)))
        self.assertEqual([row for row in rows(3) if keeps(system, row)], [(0, 1, 2), (2, 1, 0)])
        self.assertEqual([row for row in rows(3) if keeps(THREE, row)], [])


if __name__ == "__main__":
    unittest.main()
