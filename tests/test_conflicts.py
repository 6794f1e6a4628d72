"""Points 97 to 100: conflicts and removals, and the grounds for them."""

import unittest
from random import Random

from kepttogether.collections import is_possible
from kepttogether.conflicts import (
    accepts_conflict, accepts_removal, conflict_grounds, removal_grounds, smallest_conflict, smallest_removal,
    told_conflict,
)
from kepttogether.errors import NotPossible, TogetherError, TooLarge
from asking import kept_by
from choosing import (
    all_collections, is_conflict, is_conflict_grounds_by_words, is_removal, is_removal_grounds_by_words, less, others,
    rows_keeping, smallest, told_conflict_by_rows,
)
from support import EDGE_SYSTEMS, LARGE_SYSTEMS, all_systems, drawn_chain, drawn_systems, linked_pairs, rows, spoiled

THREE = (3, ((0, 1), (1, 2), (0, 2)))
MORE = (4, ((0, 1), (1, 2), (0, 1, 2), (2, 3), (0, 2)))
RING = (4, ((0, 1), (1, 2), (2, 3), (0, 3)))
# Systems with several conflicts, with empty and equal sets between them, and with none.
FULL = [
    (3, ((), (0, 1), (1,), (1, 2), (0, 1, 2), (0, 2))), (3, THREE[1] + THREE[1]), (4, RING[1] + ((0, 2), (1, 3))),
    (5, ((0, 1), (1, 2), (0, 2), (2, 3), (3, 4), (2, 4))), (5, ((0, 1, 2), (0, 2, 3), (1, 2, 4), (0, 1), (3, 4))),
    (4, RING[1] + ((0, 1, 2), (1, 2, 3), (0, 1, 3), (0, 2, 3))),
]
SYSTEMS = EDGE_SYSTEMS + FULL + [THREE, MORE, RING, (5, ())] + all_systems(3, 3)[::17] + drawn_systems(
    40, 3, 5, 6, "conflicts",
)
IMPOSSIBLE = [system for system in SYSTEMS if not kept_by(system)]
FEW = [THREE, MORE, RING, (2, ((0,),)), (3, ((0, 1),)), (1, ())] + FULL[:4]


def is_kept(system):
    linked = linked_pairs(system)
    return not any(pair[::-1] in linked[pair] for pair in linked)


class Conflicts(unittest.TestCase):
    """Points 97 and 98."""

    def test_told_conflicts(self):
        both = {True: 0, False: 0}
        for system in SYSTEMS:
            found = told_conflict(system)
            self.assertEqual(found, None if kept_by(system) else told_conflict_by_rows(system), system)
            self.assertTrue(found is None or is_conflict(system, found))
            both[found is None] += 1
        self.assertGreater(min(both.values()), 10)

    def test_smallest_conflicts(self):
        differing = 0
        for system in [system for system in SYSTEMS if len(system[1]) < 7]:
            found = smallest_conflict(system)
            self.assertEqual(found, None if kept_by(system) else smallest(system, is_conflict), system)
            differing += found != told_conflict(system)
        self.assertGreater(differing, 1)

    def test_told_conflicts_and_smallest_ones_differ(self):
        system = (4, RING[1] + ((0, 2),))
        self.assertEqual(told_conflict(system), (0, 1, 2, 3))
        self.assertEqual(smallest_conflict(system), (0, 1, 4))
        self.assertEqual(told_conflict((3, THREE[1] + THREE[1])), (0, 1, 2))
        self.assertEqual(smallest_conflict((3, THREE[1][::-1] + THREE[1])), (0, 1, 2))

    def test_grounds_are_there_for_each_conflict_and_for_nothing_else(self):
        met = 0
        for system in SYSTEMS:
            some = all_collections(system)
            for collection in some if len(some) < 65 else some[::3]:
                grounds = conflict_grounds(system, collection)
                self.assertIs(grounds is not None, is_conflict(system, collection), (system, collection))
                if grounds is not None:
                    self.assertIs(is_conflict_grounds_by_words(system, collection, grounds), True)
                    self.assertIs(accepts_conflict(system, collection, grounds), True)
                    met += 1
        self.assertGreater(met, 30)

    def test_each_conflict_is_needed_and_contained(self):
        """Point 100: a collection that is not possible contains a conflict."""
        for system in IMPOSSIBLE:
            conflicts = [set(one) for one in all_collections(system) if is_conflict(system, one)]
            for collection in all_collections(system)[::2]:
                contains = any(one <= set(collection) for one in conflicts)
                self.assertIs(is_possible(system, collection), not contains)
            self.assertIn(set(told_conflict(system)), conflicts)

    def test_changed_grounds(self):
        both = {True: 0, False: 0}
        for system in [THREE, RING, (3, ((), (0, 1), (1, 2), (0, 2)))]:
            collection = told_conflict(system)
            for other in spoiled(conflict_grounds(system, collection)):
                found = accepts_conflict(system, collection, other)
                self.assertIs(found, is_conflict_grounds_by_words(system, collection, other), (system, other))
                both[found] += 1
        # Some changed grounds are right still, with another row.
        self.assertGreater(min(both.values()), 20)

    def test_grounds_for_one_collection_are_none_for_another(self):
        for system in FEW:
            grounds = [(one, conflict_grounds(system, one)) for one in all_collections(system)]
            for collection, shown in grounds:
                for other in all_collections(system)[::3] + [collection]:
                    found = accepts_conflict(system, other, shown)
                    self.assertIs(found, is_conflict_grounds_by_words(system, other, shown))
                    self.assertTrue(not found or is_conflict(system, other), (system, other, shown))

    def test_whatever_is_accepted_is_so(self):
        both, draw = {True: 0, False: 0}, Random("any conflict")
        for system in [THREE, RING, FULL[0], FULL[1]]:
            some = rows(system[0])
            for collection in all_collections(system):
                for _ in range(25):
                    chain = drawn_chain(system, draw.choice((3, 4, 8)), draw, True)
                    value = (chain, tuple(
                        draw.choice(rows_keeping(system, less(collection, index)) or some) for index in collection
                    ))
                    found = accepts_conflict(system, collection, value)
                    self.assertIs(found, is_conflict_grounds_by_words(system, collection, value))
                    self.assertTrue(not found or is_conflict(system, collection))
                    both[found] += 1
        self.assertGreater(min(both.values()), 3)

    def test_the_refutation_is_by_the_collection(self):
        system = (3, THREE[1] + ((0, 1),))
        chain = ((0, 1), ((1, (0, 2)), (0, (1, 2)), (2, (1, 0))))
        other = ((0, 1), ((1, (0, 2)), (3, (1, 2)), (2, (1, 0))))
        kept = ((0, 2, 1), (1, 0, 2), (0, 1, 2))
        self.assertIs(accepts_conflict(system, (0, 1, 2), (chain, kept)), True)
        self.assertIs(accepts_conflict(system, (0, 1, 2), (other, kept)), False)
        self.assertIs(accepts_conflict(system, (1, 2, 3), (other, (kept[1], kept[2], kept[0]))), True)
        self.assertIs(accepts_conflict(system, (1, 2, 3), (chain, (kept[1], kept[2], kept[0]))), False)
        self.assertIs(accepts_conflict(system, (0, 1, 2), (chain, kept[::-1])), False)
        self.assertIs(accepts_conflict(system, (0, 1, 2), (chain, kept[:2])), False)
        self.assertIs(accepts_conflict(system, (0, 1, 2, 3), (chain, kept + kept[:1])), False)

    def test_edges(self):
        for system in [(1, ()), (8, ()), (8, ((),) * 6), (8, (tuple(range(8)),) * 6), (1, ((0,),) * 6)]:
            self.assertIsNone(told_conflict(system))
            self.assertIsNone(smallest_conflict(system))
            for collection in all_collections(system)[::7]:
                self.assertIsNone(conflict_grounds(system, collection))
                self.assertIs(accepts_conflict(system, collection, None), False)
        ring = (8, tuple((x, x + 1) for x in range(7)) + ((0, 7),))
        self.assertEqual(told_conflict(ring), tuple(range(8)))
        grounds = conflict_grounds(ring, tuple(range(8)))
        self.assertIs(is_conflict_grounds_by_words(ring, tuple(range(8)), grounds), True)
        self.assertIs(accepts_conflict(ring, tuple(range(8)), grounds), True)

    def test_sets_of_fewer_than_two_elements_or_all_are_in_no_conflict_and_no_removal(self):
        """Point 100."""
        for system in IMPOSSIBLE:
            found = told_conflict(system)
            if len(system[1]) < 7:
                found += smallest_conflict(system) + smallest_removal(system)
            for index in found:
                self.assertIn(len(system[1][index]), range(2, system[0]))
            for collection in all_collections(system)[::5]:
                if any(len(system[1][index]) in (0, 1, system[0]) for index in collection):
                    self.assertIsNone(conflict_grounds(system, collection))
                    self.assertIsNone(removal_grounds(system, collection))


class Removals(unittest.TestCase):
    """Point 99."""

    def test_smallest_removals(self):
        many = {}
        for system in [system for system in SYSTEMS if len(system[1]) < 7]:
            found = smallest_removal(system)
            self.assertEqual(found, smallest(system, is_removal), system)
            self.assertIs(found == (), kept_by(system) != ())
            many[len(found)] = many.get(len(found), 0) + 1
        self.assertGreater(min(many[number] for number in (0, 1, 2)), 1)

    def test_grounds_are_there_for_each_removal_and_for_nothing_else(self):
        met = 0
        for system in SYSTEMS:
            some = all_collections(system)
            for collection in some if len(some) < 65 else some[::3]:
                grounds = removal_grounds(system, collection)
                self.assertIs(grounds is not None, is_removal(system, collection), (system, collection))
                if grounds is not None:
                    self.assertIs(is_removal_grounds_by_words(system, collection, grounds), True)
                    self.assertIs(accepts_removal(system, collection, grounds), True)
                    met += 1
        self.assertGreater(met, 100)

    def test_each_removal_has_a_set_in_common_with_each_conflict(self):
        """Point 100."""
        for system in IMPOSSIBLE:
            conflicts = [one for one in all_collections(system) if is_conflict(system, one)]
            for removal in [one for one in all_collections(system) if is_removal(system, one)]:
                self.assertTrue(all(set(removal) & set(one) for one in conflicts))

    def test_changed_grounds(self):
        both = {True: 0, False: 0}
        for system, collection in [(THREE, (1,)), (RING, (2,)), (FULL[1], (0, 3)), ((2, ((0,),)), ())]:
            self.assertIs(is_removal(system, collection), True)
            for other in spoiled(removal_grounds(system, collection)):
                found = accepts_removal(system, collection, other)
                self.assertIs(found, is_removal_grounds_by_words(system, collection, other), (system, other))
                both[found] += 1
        # Some changed grounds are right still, with another row.
        self.assertGreater(min(both.values()), 20)

    def test_grounds_for_one_collection_are_none_for_another(self):
        for system in FEW:
            grounds = [(one, removal_grounds(system, one)) for one in all_collections(system)]
            for collection, shown in grounds:
                for other in all_collections(system)[::3] + [collection]:
                    found = accepts_removal(system, other, shown)
                    self.assertIs(found, is_removal_grounds_by_words(system, other, shown))
                    self.assertTrue(not found or is_removal(system, other), (system, other, shown))

    def test_whatever_is_accepted_is_so(self):
        both, draw = {True: 0, False: 0}, Random("any removal")
        for system in [THREE, RING, FULL[0], FULL[1]]:
            for collection in all_collections(system):
                for _ in range(15):
                    row = draw.choice(rows_keeping(system, others(system, collection)) or rows(system[0]))
                    chains = tuple(drawn_chain(system, draw.choice((3, 4)), draw, True) for _ in collection)
                    found = accepts_removal(system, collection, (row, chains))
                    self.assertIs(found, is_removal_grounds_by_words(system, collection, (row, chains)))
                    self.assertTrue(not found or is_removal(system, collection))
                    both[found] += 1
        self.assertGreater(min(both.values()), 3)

    def test_each_refutation_is_by_its_set_and_those_that_stay(self):
        system = (3, THREE[1] + ((0, 1),))
        chain = ((0, 1), ((1, (0, 2)), (0, (1, 2)), (2, (1, 0))))
        other = ((0, 1), ((1, (0, 2)), (3, (1, 2)), (2, (1, 0))))
        row = (0, 2, 1)
        self.assertIs(accepts_removal(system, (0, 3), (row, (chain, other))), True)
        self.assertIs(accepts_removal(system, (0, 3), (row, (other, chain))), False)
        self.assertIs(accepts_removal(system, (0, 3), (row, (chain, chain))), False)
        self.assertIs(accepts_removal(system, (0, 3), (row, (chain,))), False)
        self.assertIs(accepts_removal(system, (0, 3), ((0, 1, 2), (chain, other))), False)
        self.assertIs(accepts_removal(system, (0,), (row, (chain,))), False)
        self.assertIs(accepts_removal(system, (1,), ((1, 0, 2), (chain,))), True)
        self.assertIs(accepts_removal(system, (1,), ((1, 0, 2), (other,))), True)
        mixed = ((0, 1), ((1, (0, 2)), (0, (1, 2)), (3, (0, 2)), (0, (1, 2)), (2, (1, 0))))
        self.assertIs(accepts_removal(system, (1,), ((1, 0, 2), (mixed,))), True)
        self.assertIs(accepts_removal(system, (0, 3), (row, (mixed, other))), False)

    def test_edges(self):
        for system in [(1, ()), (8, ()), (8, ((),) * 6), (8, (tuple(range(8)),) * 6), (1, ((0,),) * 6)]:
            self.assertEqual(smallest_removal(system), ())
            word, chains = removal_grounds(system, ())
            self.assertEqual(chains, ())
            for row in rows(system[0])[::911]:
                self.assertIs(accepts_removal(system, (), (row, ())), True)
            if system[1]:
                self.assertIsNone(removal_grounds(system, (0,)))
        ring = (8, tuple((x, x + 1) for x in range(7)) + ((0, 7),))
        self.assertIsNone(removal_grounds(ring, ()))
        for index in range(8):
            grounds = removal_grounds(ring, (index,))
            self.assertIs(is_removal_grounds_by_words(ring, (index,), grounds), True)
            self.assertIs(accepts_removal(ring, (index,), grounds), True)


class Bounds(unittest.TestCase):
    """Point 101, as far as the number of the sets goes."""

    def test_six_sets_and_seven(self):
        for system in [(3, THREE[1] * 2), (3, THREE[1] * 2 + ((0, 1),)), (8, ((0, 1),) * 6), (8, ((0, 1),) * 7)]:
            for many in (6, 7, 8):
                tried = (system[0], (system[1] + ((), (0,)))[:many])
                for function in (smallest_conflict, smallest_removal):
                    if len(tried[1]) < 7:
                        self.assertEqual(function(tried) in (None, ()), kept_by(tried) != ())
                    else:
                        with self.assertRaises(TooLarge) as caught:
                            function(tried)
                        self.assertEqual(caught.exception.what, "sets")
                        self.assertIsInstance(caught.exception, TogetherError)
                        self.assertNotIsInstance(caught.exception, NotPossible)

    def test_conflicts_and_grounds_are_told_of_eight_sets(self):
        system = (3, ((),) * 5 + THREE[1])
        self.assertEqual(told_conflict(system), (5, 6, 7))
        self.assertIs(accepts_conflict(system, (5, 6, 7), conflict_grounds(system, (5, 6, 7))), True)
        self.assertIs(accepts_removal(system, (7,), removal_grounds(system, (7,))), True)

    def test_large_systems(self):
        met = 0
        for system in LARGE_SYSTEMS + drawn_systems(30, 6, 8, 6, "large conflicts"):
            found = told_conflict(system)
            self.assertIs(found is None, is_kept(system))
            if found is not None:
                grounds = conflict_grounds(system, found)
                self.assertIs(is_conflict_grounds_by_words(system, found, grounds), True)
                met += 1
                if len(system[1]) < 7:
                    few, removal = smallest_conflict(system), smallest_removal(system)
                    self.assertLessEqual(len(few), len(found))
                    self.assertIs(accepts_conflict(system, few, conflict_grounds(system, few)), True)
                    self.assertIs(accepts_removal(system, removal, removal_grounds(system, removal)), True)
        self.assertGreater(met, 10)


if __name__ == "__main__":
    unittest.main()
