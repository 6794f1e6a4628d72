"""Points 92 to 96 and 100: collections of sets, what can be left out of them, and bases."""

import unittest
from random import Random

from kepttogether.collections import (
    accepts_grounds, can_be_left_out, grounds_for, is_possible, smallest_base, told_base,
)
from kepttogether.errors import NotPossible, TogetherError, TooLarge
from asking import kept_by
from choosing import (
    all_collections, can_be_left_out_by_rows, is_base, is_grounds_by_words, less, links_for, rows_keeping, sets_of,
    smallest, told_base_by_rows,
)
from support import (
    EDGE_SYSTEMS, LARGE_SYSTEMS, SMALL_SYSTEMS, all_systems, drawn_chain, drawn_systems, ends, fewest_steps, has,
    is_right_chain, linked_pairs, spoiled,
)

FOUR = (4, ((0, 1), (1, 2), (0, 1, 2), (2, 3)))
MORE = (4, FOUR[1] + ((0, 2),))
THREE = (3, ((0, 1), (1, 2), (0, 2)))
# Systems with sets that follow from others, in several ways.
FULL = [
    (5, ((0, 1), (1, 2), (0, 1, 2), (2, 3), (1, 2, 3), (3, 4))),
    (5, ((0, 1, 2), (1, 2, 3), (1, 2), (0, 1, 2, 3), (3,), ())),
    (4, ((0, 1), (0, 1), (), (0, 1, 2, 3), (1,), (2, 3))), (3, ((0, 1), (1, 2)) * 4), (4, ((0, 1), (2, 3)) * 3),
    (5, ((0, 1), (0, 1, 2), (0, 1, 2, 3), (1, 2), (2, 3), (3, 4), (1, 2, 3), (2, 3, 4))),
    # Neighbours in the last sets are in no other set together: chains for them need several steps.
    (4, ((0, 2), (1, 2), (0, 1, 2))), (5, ((0, 3), (1, 3), (1, 4), (0, 1, 3), (0, 1, 3, 4))),
    (5, ((0, 2), (2, 4), (1, 4), (0, 1, 2, 4))), (4, ((0, 1), (0, 1, 2), (0, 2), (1, 2, 3))),
]
SYSTEMS = EDGE_SYSTEMS + FULL + [FOUR, MORE, (5, ()), (2, ((0, 1), ()))] + all_systems(3, 3)[::11] + drawn_systems(
    40, 3, 5, 5, "collections",
)
FEW = EDGE_SYSTEMS[3:] + FULL[:4] + [FOUR, MORE, THREE] + drawn_systems(12, 3, 5, 4, "few collections")


def possible_ones(system):
    return [collection for collection in all_collections(system) if rows_keeping(system, collection)]


class Possible(unittest.TestCase):
    """Point 92."""

    def test_against_all_rows(self):
        both = {True: 0, False: 0}
        for system in SYSTEMS:
            for collection in all_collections(system):
                there = rows_keeping(system, collection) != ()
                self.assertIs(is_possible(system, collection), there, (system, collection))
                both[there] += 1
        self.assertGreater(min(both.values()), 15)

    def test_no_set_and_all_sets(self):
        for system in SYSTEMS + LARGE_SYSTEMS:
            self.assertIs(is_possible(system, ()), True)
            linked = linked_pairs(system)
            expected = not any(pair[::-1] in linked[pair] for pair in linked)
            self.assertIs(is_possible(system, tuple(range(len(system[1])))), expected)

    def test_large_systems(self):
        draw = Random("large collections")
        for system in LARGE_SYSTEMS:
            for collection in draw.sample(all_collections(system), min(12, len(all_collections(system)))):
                linked = linked_pairs(sets_of(system, collection))
                expected = not any(pair[::-1] in linked[pair] for pair in linked)
                self.assertIs(is_possible(system, collection), expected)

    def test_an_impossible_collection_in_a_system(self):
        self.assertIs(is_possible(MORE, (0, 1, 4)), False)
        self.assertIs(is_possible(MORE, (0, 1, 2, 3)), True)
        self.assertIs(is_possible(MORE, (0, 4)), True)


class LeavingOut(unittest.TestCase):
    """Points 93 to 95."""

    def test_against_all_rows(self):
        both = {True: 0, False: 0}
        for system in SYSTEMS:
            some = possible_ones(system)
            for collection in some[::max(1, len(some) // 25)] + some[-1:]:
                for index in collection:
                    expected = can_be_left_out_by_rows(system, collection, index)
                    self.assertIs(can_be_left_out(system, collection, index), expected, (system, collection, index))
                    self.assertIs(grounds_for(system, collection, index) is not None, expected)
                    both[expected] += 1
        self.assertGreater(min(both.values()), 200)

    def test_grounds_are_shortest_chains_by_the_others(self):
        met = 0
        for system in SYSTEMS:
            some = possible_ones(system)
            for collection in some[::max(1, len(some) // 8)] + some[-1:]:
                for index in collection:
                    grounds = grounds_for(system, collection, index)
                    if grounds is None:
                        continue
                    rest = less(collection, index)
                    alone = sets_of(system, rest)
                    self.assertIs(is_grounds_by_words(system, collection, index, grounds), True)
                    self.assertIs(accepts_grounds(system, collection, index, grounds), True)
                    for chain, (begin, end) in zip(grounds, links_for(system, index)):
                        self.assertEqual(len(chain[1]), fewest_steps(alone, begin)[end], (system, collection, chain))
                        met += len(chain[1]) > 1
        self.assertGreater(met, 20)

    def test_grounds_come_in_their_order(self):
        system = (6, ((1, 2, 4), (1, 2), (2, 4)))
        expected = [((z, x), (z, y)) for z in (0, 3, 5) for x, y in ((1, 2), (2, 4))]
        grounds = grounds_for(system, (0, 1, 2), 0)
        self.assertEqual([ends(chain) for chain in grounds], expected)
        for at in range(5):
            changed = grounds[:at] + (grounds[at + 1], grounds[at]) + grounds[at + 2:]
            self.assertIs(accepts_grounds(system, (0, 1, 2), 0, changed), False)
            self.assertIs(accepts_grounds(system, (0, 1, 2), 0, grounds[:at] + grounds[at + 1:]), False)

    def test_sets_of_fewer_than_two_elements_and_of_all(self):
        for size in range(1, 9):
            for chosen in [(), (size - 1,), tuple(range(size))]:
                for system, collection in [((size, (chosen,)), (0,)), ((size, ((0,), chosen, ())), (0, 1, 2))]:
                    index = system[1].index(chosen)
                    self.assertIs(can_be_left_out(system, collection, index), True)
                    self.assertEqual(grounds_for(system, collection, index), ())
                    self.assertIs(accepts_grounds(system, collection, index, ()), True)
                    self.assertIs(accepts_grounds(system, collection, index, ((),)), False)

    def test_a_set_alone(self):
        self.assertIs(can_be_left_out((3, ((0, 1),)), (0,), 0), False)
        self.assertIsNone(grounds_for((3, ((0, 1),)), (0,), 0))
        self.assertIs(can_be_left_out((3, ((0, 1), (0, 1))), (0,), 0), False)
        self.assertIs(can_be_left_out((3, ((0, 1), (0, 1))), (0, 1), 0), True)
        self.assertEqual(grounds_for((3, ((0, 1), (0, 1))), (0, 1), 1), (((2, 0), ((0, (2, 1)),)),))

    def test_chains_have_to_be_by_the_others_in_the_collection(self):
        system = (3, ((0, 1), (0, 1), (0, 1)))
        for index, accepted in [(0, False), (1, True), (2, False)]:
            grounds = (((2, 0), ((index, (2, 1)),)),)
            # The set with the index 0 is the one that is left out, and the one with the index 2 is not there.
            self.assertIs(accepts_grounds(system, (0, 1), 0, grounds), accepted)
        self.assertIs(accepts_grounds(system, (0, 1, 2), 0, (((2, 0), ((2, (2, 1)),)),)), True)
        mixed = (((2, 0), ((1, (2, 1)), (2, (2, 0)), (1, (2, 1)))),)
        self.assertIs(accepts_grounds(system, (0, 1, 2), 0, mixed), True)
        self.assertIs(accepts_grounds(system, (0, 1), 0, mixed), False)

    def test_indexes_are_those_of_the_whole_system(self):
        system = (4, ((2, 3), (), (0, 1), (0, 1)))
        for chain, in [grounds_for(system, (2, 3), 3)[:1], grounds_for(system, (1, 2, 3), 3)[:1]]:
            self.assertEqual(chain, ((2, 0), ((2, (2, 1)),)))

    def test_changed_grounds(self):
        both = {True: 0, False: 0}
        for system in FEW:
            draw = Random(f"changed grounds {system}")
            for collection in draw.sample(possible_ones(system), min(4, len(possible_ones(system)))):
                for index in collection:
                    grounds = grounds_for(system, collection, index)
                    if grounds and len(str(grounds)) < 90:
                        for other in spoiled(grounds):
                            found = accepts_grounds(system, collection, index, other)
                            expected = is_grounds_by_words(system, collection, index, other)
                            self.assertIs(found, expected, (system, collection, index, other))
                            both[found] += 1
        # Some changed grounds are right still, with a step by an equal set.
        self.assertGreater(min(both.values()), 20)

    def test_whatever_is_accepted_is_so(self):
        # Right chains and wrong ones between the pairs that are asked, made without looking which sets they are by.
        both, draw = {True: 0, False: 0}, Random("any grounds")
        for system in FEW + [THREE]:
            for index in range(len(system[1])):
                links = links_for(system, index)
                for _ in range(30 if 0 < len(links) < 4 else 0):
                    value = tuple(self.some_chain(system, link, draw) for link in links)
                    for collection in [other for other in all_collections(system) if index in other]:
                        found = accepts_grounds(system, collection, index, value)
                        self.assertIs(found, is_grounds_by_words(system, collection, index, value))
                        if found:
                            self.assertIs(can_be_left_out_by_rows(system, collection, index), True)
                        both[found] += 1
        self.assertGreater(min(both.values()), 50)

    def some_chain(self, system, link, draw):
        for _ in range(40):
            begin, end = link
            chain = (begin, drawn_chain(system, draw.randint(1, 4), draw, True)[1])
            if ends(chain)[1] == end and is_right_chain(system, chain):
                return chain
        return link[0], ((draw.randrange(len(system[1])), link[1]),)

    def test_each_other_element_stands_on_one_side(self):
        for system in FEW:
            for collection in possible_ones(system)[-3:]:
                for index in collection:
                    if can_be_left_out(system, collection, index):
                        for row in rows_keeping(system, less(collection, index)):
                            for (z, x), (_, y) in links_for(system, index):
                                self.assertIs(has(row, (z, x)), has(row, (z, y)))

    def test_collections_that_are_not_possible(self):
        met = 0
        for system in [THREE, MORE] + [system for system in SYSTEMS if not kept_by(system)]:
            for collection in all_collections(system):
                if not rows_keeping(system, collection):
                    for index in collection:
                        for function in (can_be_left_out, grounds_for):
                            with self.assertRaises(NotPossible) as caught:
                                function(system, collection, index)
                            self.assertEqual(caught.exception.why, "contradictory")
                        met += 1
        self.assertGreater(met, 30)

    def test_the_judge_takes_collections_that_are_not_possible(self):
        system = (3, THREE[1] + ((0, 1),))
        self.assertIs(accepts_grounds(system, (0, 1, 2, 3), 3, (((2, 0), ((0, (2, 1)),)),)), True)
        self.assertIs(accepts_grounds(system, (0, 1, 2, 3), 3, (((2, 0), ((3, (2, 1)),)),)), False)
        steps = ((0, (2, 1)), (2, (0, 1)), (1, (0, 2)), (0, (1, 2)), (2, (1, 0)), (1, (2, 0)), (0, (2, 1)))
        self.assertIs(accepts_grounds(system, (0, 1, 2, 3), 3, (((2, 0), steps),)), True)
        self.assertIs(accepts_grounds(system, (0, 1, 3), 3, (((2, 0), steps),)), False)


class Bases(unittest.TestCase):
    """Point 96."""

    def test_told_bases(self):
        met = 0
        for system in SYSTEMS:
            if kept_by(system):
                found = told_base(system)
                self.assertEqual(found, told_base_by_rows(system), system)
                self.assertIs(is_base(system, found), True)
                met += len(found) < len(system[1])
        self.assertGreater(met, 30)

    def test_smallest_bases(self):
        met = 0
        for system in SYSTEMS:
            if kept_by(system) and len(system[1]) < 7:
                found = smallest_base(system)
                self.assertEqual(found, smallest(system, is_base), system)
                met += found != told_base(system)
        self.assertGreater(met, 0)

    def test_told_bases_and_smallest_ones_differ(self):
        system = (4, ((0, 2), (1, 3), (0, 1, 2, 3), (0, 2, 3), (0, 1, 3), (0, 3)))
        self.assertEqual((told_base(system), smallest_base(system)), ((0, 3, 4), (0, 1, 5)))
        system = (5, ((0, 1, 2), (3, 4), (1, 2, 3), (2, 3), (0, 1)))
        self.assertEqual((told_base(system), smallest_base(system)), ((0, 1, 2, 3), (1, 2, 4)))
        # Of two equal sets the one with the lesser index is kept.
        for many in (1, 2, 6):
            self.assertEqual(told_base((3, ((0, 1),) * many)), (0,))
            self.assertEqual(smallest_base((3, ((0, 1),) * many)), (0,))

    def test_systems_with_many_sets(self):
        draw, met = Random("stretches"), 0
        for _ in range(150):
            row = draw.sample(range(5), 5)
            stretches = draw.sample([row[low:high] for low in range(4) for high in range(low + 2, 6)], 6)
            system = (5, tuple(tuple(sorted(stretch)) for stretch in stretches))
            base, few = told_base(system), smallest_base(system)
            self.assertEqual(base, told_base_by_rows(system), system)
            self.assertEqual(few, smallest(system, is_base), system)
            met += len(few) < len(base)
        self.assertGreater(met, 0)

    def test_edges(self):
        for system in [(1, ()), (8, ()), (1, ((0,),) * 6), (8, ((),) * 6), (8, (tuple(range(8)),) * 6)]:
            self.assertEqual(told_base(system), ())
            self.assertEqual(smallest_base(system), ())
        for system in [(1, ((0,),) * 8), (8, ((),) * 8), (8, tuple((x,) for x in range(8)))]:
            self.assertEqual(told_base(system), ())
        self.assertEqual(told_base((8, ((0, 1),) * 8)), (0,))
        self.assertEqual(told_base((8, tuple((x, x + 1) for x in range(7)))), tuple(range(7)))
        self.assertEqual(smallest_base((8, tuple((x, x + 1) for x in range(6)))), tuple(range(6)))

    def test_six_sets_and_seven(self):
        for many in range(9):
            system = (5, ((0, 1),) * many)
            self.assertEqual(told_base(system), (0,)[:many])
            if many < 7:
                self.assertEqual(smallest_base(system), (0,)[:many])
            else:
                with self.assertRaises(TooLarge) as caught:
                    smallest_base(system)
                self.assertEqual(caught.exception.what, "sets")
                self.assertIsInstance(caught.exception, TogetherError)

    def test_systems_that_no_row_keeps(self):
        for system in [THREE, MORE, (3, THREE[1] + THREE[1]), (3, THREE[1] + THREE[1] + THREE[1][:2])]:
            # No keeping row comes before too many sets.
            for function in (told_base, smallest_base):
                with self.assertRaises(NotPossible) as caught:
                    function(system)
                self.assertEqual(caught.exception.why, "contradictory")

    def test_sets_of_fewer_than_two_elements_or_all_are_in_no_base(self):
        """Point 100."""
        for system in SYSTEMS + SMALL_SYSTEMS[::9]:
            if kept_by(system):
                for index in told_base(system) + (smallest_base(system) if len(system[1]) < 7 else ()):
                    self.assertIn(len(system[1][index]), range(2, system[0]))

    def test_large_systems(self):
        for system in LARGE_SYSTEMS:
            linked = linked_pairs(system)
            if any(pair[::-1] in linked[pair] for pair in linked):
                continue
            base = told_base(system)
            # What is linked by the base is linked by the system, and the other way round: point 37.
            self.assertEqual(linked_pairs(sets_of(system, base)), linked)
            for index in base:
                self.assertNotEqual(linked_pairs(sets_of(system, less(base, index))), linked)


if __name__ == "__main__":
    unittest.main()
