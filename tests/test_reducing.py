"""Points 67, 68, 70 and 71: reducing, the tree of a system, grounds for it, and the judge of trees."""

import unittest
from itertools import permutations
from random import Random

from kepttogether.chains import turned
from kepttogether.links import are_linked
from kepttogether.reducing import accepts_tree, grounds_for, reduced, tree_of
from kepttogether.systems import keeps
from kepttogether.trees import canonical, count_rows, fits, is_row_of, is_tree, told_sets
from growing import (
    ALL_TREES, FEW_TREES, all_trees, asked_by_words, canonical_by_rows, count_by_words, drawn_trees, inner_parts,
    is_accepted_by_words, is_canonical_by_words, is_tree_by_words, leaves, reduced_by_words, rows_of, stirred,
    told_by_words, trees_by_rows,
)
from support import (
    EDGE_SYSTEMS, LARGE_SYSTEMS, SMALL_SYSTEMS, all_systems, drawn_systems, ends, fewest_steps, is_right_chain,
    keeping_rows, rows, spoiled, stands_together, subsets,
)

SYSTEM = (5, ((0, 1, 2), (2, 3, 4)))
THREE = (3, ((0, 1), (1, 2), (0, 2)))
MANY_SYSTEMS = SMALL_SYSTEMS + all_systems(3, 3)[::3] + drawn_systems(80, 4, 5, 5, "trees")
FEW_SYSTEMS = EDGE_SYSTEMS + all_systems(3, 2)[::5] + drawn_systems(30, 4, 5, 4, "few trees")


def tree_by_words(system):
    """Point 68, by the keeping rows."""
    kept = tuple(sorted(keeping_rows(system)))
    return trees_by_rows(system[0])[kept] if kept else None


class Reducing(unittest.TestCase):
    """Point 67."""

    def test_all_trees_and_all_sets(self):
        met = {"none": 0, "same": 0, "other": 0}
        for tree in ALL_TREES:
            for chosen in subsets(len(leaves(tree))):
                expected = reduced_by_words(tree, chosen)
                self.assertEqual(reduced(tree, chosen), expected, (tree, chosen))
                met["none" if expected is None else "same" if expected == tree else "other"] += 1
        self.assertGreater(min(met.values()), 500)

    def test_trees_in_whatever_order(self):
        draw = Random("reducing")
        for tree in drawn_trees(5, 40, "reducing") + [stirred(tree, draw) for tree in FEW_TREES[::3]]:
            for chosen in subsets(len(leaves(tree))):
                self.assertEqual(reduced(tree, chosen), reduced_by_words(tree, chosen), (tree, chosen))

    def test_large_trees(self):
        met = {True: 0, False: 0}
        for size, count in [(6, 15), (7, 8)]:
            for tree in [tree for tree in drawn_trees(size, count, "large") if count_rows(tree) < 1000]:
                for chosen in subsets(size)[::3]:
                    left = [row for row in rows_of(tree) if stands_together(chosen, row)]
                    found = reduced(tree, chosen)
                    self.assertIs(found is None, left == [], (tree, chosen))
                    met[found is None] += 1
                    if found is not None:
                        self.assertIs(is_canonical_by_words(found), True, (tree, chosen))
                        self.assertIs(is_tree_by_words(found, size), True)
                        self.assertEqual(rows_of(found), tuple(left), (tree, chosen))
        self.assertGreater(min(met.values()), 50)

    def test_a_set_that_fits_changes_nothing(self):
        for tree in FEW_TREES:
            for chosen in subsets(len(leaves(tree))):
                if fits(tree, chosen):
                    self.assertEqual(reduced(tree, chosen), canonical(tree))
        self.assertEqual(reduced(0, ()), 0)
        self.assertEqual(reduced(0, (0,)), 0)
        self.assertEqual(reduced(("any", (1, 0)), (0, 1)), ("any", (0, 1)))

    def test_at_the_least_part(self):
        tree = ("any", (0, 1, 2, 3, 4))
        self.assertEqual(reduced(tree, (1, 3)), ("any", (0, ("any", (1, 3)), 2, 4)))
        self.assertEqual(reduced(tree, (0, 1, 2, 3)), ("any", (("any", (0, 1, 2, 3)), 4)))
        tree = ("any", (0, ("any", (1, 2, 3)), 4))
        self.assertEqual(reduced(tree, (1, 3)), ("any", (0, ("any", (("any", (1, 3)), 2)), 4)))

    def test_at_one_end_of_a_part_with_the_word_turn(self):
        tree = ("turn", (("any", (0, 1)), 2, ("any", (3, 4))))
        self.assertEqual(reduced(tree, (1, 2)), ("turn", (0, 1, 2, ("any", (3, 4)))))
        self.assertEqual(reduced(tree, (2, 4)), ("turn", (("any", (0, 1)), 2, 4, 3)))
        self.assertEqual(reduced(tree, (0, 3)), None)

    def test_within_a_part_with_the_word_turn(self):
        tree = ("turn", (0, ("any", (1, 2)), ("any", (3, 4)), 5))
        self.assertEqual(reduced(tree, (1, 4)), ("turn", (0, 2, 1, 4, 3, 5)))
        self.assertEqual(reduced(tree, (0, 2)), ("turn", (0, 2, 1, ("any", (3, 4)), 5)))
        self.assertEqual(reduced(tree, (0, 5)), None)
        self.assertEqual(reduced(tree, (0, 1, 3, 5)), None)

    def test_through_several_parts(self):
        # The set takes one end of each of two parts, through parts within them.
        tree = ("any", (("any", (("any", (0, 1)), 2)), 3, ("turn", (4, 5, ("any", (6, 7))))))
        self.assertEqual(reduced(tree, (1, 3, 4, 5)), ("turn", (2, 0, 1, 3, 4, 5, ("any", (6, 7)))))
        self.assertEqual(reduced(tree, (1, 2, 6)), ("any", (("turn", (0, 1, 2, 6, 7, 5, 4)), 3)))
        self.assertEqual(reduced(tree, (1, 5)), None)
        self.assertEqual(reduced(tree, (1, 3, 5)), None)
        self.assertEqual(reduced(tree, (0, 3, 4)), ("turn", (2, 1, 0, 3, 4, 5, ("any", (6, 7)))))

    def test_three_parts_that_the_set_takes_partly(self):
        tree = ("any", (("any", (0, 1)), ("any", (2, 3)), ("any", (4, 5))))
        self.assertEqual(reduced(tree, (1, 2)), ("any", (("turn", (0, 1, 2, 3)), ("any", (4, 5)))))
        self.assertEqual(reduced(tree, (1, 2, 4)), None)
        self.assertEqual(reduced(tree, (1, 2, 4, 5)), ("turn", (0, 1, ("any", (4, 5)), 2, 3)))


class TreesOfSystems(unittest.TestCase):
    """Point 68."""

    def test_the_rows_are_the_keeping_rows(self):
        both = {True: 0, False: 0}
        for system in MANY_SYSTEMS:
            expected = tree_by_words(system)
            self.assertEqual(tree_of(system), expected, system)
            both[expected is None] += 1
        self.assertGreater(min(both.values()), 10)

    def test_in_whatever_sequence_and_however_often(self):
        for system in FEW_SYSTEMS + drawn_systems(20, 5, 8, 4, "sequence"):
            size, sets = system
            for order in list(permutations(sets))[:24]:
                self.assertEqual(tree_of((size, order)), tree_of(system), (system, order))
            if len(sets) < 5:
                self.assertEqual(tree_of((size, sets + sets)), tree_of(system))
                self.assertEqual(tree_of((size, sets[::-1] + sets)), tree_of(system))

    def test_large_systems(self):
        for system in LARGE_SYSTEMS + drawn_systems(20, 6, 7, 3, "large trees"):
            found = tree_of(system)
            if found is None:
                # Then adding the sets one by one fails at one of them: the last tree has no row that keeps it.
                before = [many for many in range(len(system[1])) if tree_of((system[0], system[1][:many])) is not None]
                last, chosen = tree_of((system[0], system[1][:before[-1]])), system[1][before[-1]]
                if count_rows(last) < 2000:
                    self.assertFalse(any(stands_together(chosen, row) for row in rows_of(last)))
                continue
            self.assertIs(is_canonical_by_words(found), True)
            self.assertIs(is_tree(found, system[0]), True)
            for row in rows_of(found)[::199] if count_rows(found) < 50000 else []:
                self.assertIs(keeps(system, row), True)
            for row in rows(7)[::53] if system[0] == 7 else []:
                self.assertIs(is_row_of(found, row), keeps(system, row))

    def test_edges(self):
        self.assertEqual(tree_of((1, ())), 0)
        self.assertEqual(tree_of((1, ((0,), ()))), 0)
        self.assertEqual(tree_of((2, ((0,), (1,)))), ("any", (0, 1)))
        self.assertEqual(tree_of((8, ())), ("any", tuple(range(8))))
        self.assertEqual(tree_of((8, (tuple(range(8)),) * 8)), ("any", tuple(range(8))))
        self.assertEqual(tree_of((8, tuple((x, x + 1) for x in range(7)))), ("turn", tuple(range(8))))
        self.assertIsNone(tree_of((8, tuple((x, x + 1) for x in range(7)) + ((0, 7),))))
        self.assertIsNone(tree_of(THREE))


class Grounds(unittest.TestCase):
    """Point 70."""

    def check_grounds(self, system):
        found, tree = grounds_for(system), tree_of(system)
        if tree is None:
            self.assertIsNone(found)
            return
        told = told_by_words(tree)
        self.assertEqual(len(found), len(told))
        for chosen, chains in zip(told, found):
            asked = asked_by_words(system[0], chosen)
            self.assertEqual([ends(chain) for chain in chains], asked, (system, chosen))
            self.assertTrue(all(is_right_chain(system, chain) for chain in chains))
        self.assertIs(accepts_tree(system, tree, found), True)
        if count_by_words(tree) < 2000:
            self.assertIs(is_accepted_by_words(system, tree, found), True)

    def test_all_systems(self):
        for system in MANY_SYSTEMS:
            self.check_grounds(system)

    def test_large_systems(self):
        for system in LARGE_SYSTEMS + drawn_systems(10, 6, 8, 4, "large grounds"):
            self.check_grounds(system)

    def test_edges(self):
        self.assertEqual(grounds_for((1, ())), ())
        self.assertEqual(grounds_for((8, ())), ())
        self.assertEqual(grounds_for((8, ((),) * 8)), ())
        self.assertIsNone(grounds_for(THREE))
        self.assertEqual(grounds_for((3, ((1, 2),))), ((((1, 0), ((0, (2, 0)),)),),))

    def test_the_links_that_are_asked(self):
        found = grounds_for(SYSTEM)
        self.assertEqual(told_sets(tree_of(SYSTEM)), [(0, 1), (0, 1, 2), (2, 3, 4), (3, 4)])
        self.assertEqual([ends(chain) for chain in found[0]], [((0, z), (1, z)) for z in (2, 3, 4)])
        asked = [((0, 3), (1, 3)), ((1, 3), (2, 3)), ((0, 4), (1, 4)), ((1, 4), (2, 4))]
        self.assertEqual([ends(chain) for chain in found[1]], asked)

    def test_the_chains_are_not_longer_than_needed(self):
        for chains in grounds_for(SYSTEM):
            for begin, steps in chains:
                self.assertEqual(len(steps), fewest_steps(SYSTEM, begin)[ends((begin, steps))[1]])


class Judge(unittest.TestCase):
    """Point 71."""

    def check_judge(self, system, tree, grounds):
        accepted = is_accepted_by_words(system, tree, grounds)
        self.assertIs(accepts_tree(system, tree, grounds), accepted, (system, tree, grounds))
        return accepted

    def test_what_is_changed_at_one_place(self):
        both = {True: 0, False: 0}
        for system in [SYSTEM, (3, ((1, 2),)), (4, ((0, 1), (1, 2))), (4, ((0, 1, 2), (1, 2), (3,)))]:
            tree, grounds = tree_of(system), grounds_for(system)
            for other in spoiled(tree):
                both[self.check_judge(system, other, grounds)] += 1
            for other in spoiled(grounds):
                both[self.check_judge(system, tree, other)] += 1
        self.assertGreater(min(both.values()), 10)

    def test_chains_that_are_changed(self):
        tree, grounds = tree_of(SYSTEM), grounds_for(SYSTEM)
        for at, chains in enumerate(grounds):
            for place, (begin, steps) in enumerate(chains):
                wrong = [(begin, steps[:-1]), (begin, steps + ((0, begin),)), (begin[::-1], steps), (begin, ())]
                wrong += [(begin, ((1 - steps[0][0], steps[0][1]),) + steps[1:])]
                wrong += [chains[place - 1] if len(chains) > 1 else ()]
                for other in wrong:
                    changed = grounds[:at] + (chains[:place] + (other,) + chains[place + 1:],) + grounds[at + 1:]
                    self.assertIs(accepts_tree(SYSTEM, tree, changed), False, (at, place, other))

    def test_a_longer_chain_is_accepted_too(self):
        tree, grounds = tree_of(SYSTEM), grounds_for(SYSTEM)
        begin, steps = grounds[0][0]
        around = (begin, steps + turned(SYSTEM, (begin, steps))[1] + steps)
        self.assertIs(is_right_chain(SYSTEM, around), True)
        self.assertIs(accepts_tree(SYSTEM, tree, ((around,) + grounds[0][1:],) + grounds[1:]), True)

    def test_other_trees_with_the_same_rows(self):
        draw = Random("judge")
        for system in FEW_SYSTEMS:
            tree, grounds = tree_of(system), grounds_for(system)
            for _ in range(3 if tree is not None else 0):
                self.assertIs(accepts_tree(system, stirred(tree, draw), grounds), True)

    def test_an_accepted_tree_has_exactly_the_keeping_rows(self):
        met = 0
        for system in FEW_SYSTEMS:
            kept = tuple(sorted(keeping_rows(system)))
            for tree in (FEW_TREES if system[0] < 5 else all_trees(5)[::9] + [tree_of(system)]):
                if tree is None or len(leaves(tree)) != system[0]:
                    continue
                # The best grounds for the tree that there are: chains where there are any.
                grounds = tuple(
                    tuple(self.some_chain(system, one, other) for one, other in asked_by_words(system[0], chosen))
                    for chosen in told_by_words(tree)
                )
                accepted = accepts_tree(system, tree, grounds)
                self.assertIs(accepted, rows_of(tree) == kept, (system, tree))
                met += accepted
        self.assertGreater(met, 20)

    def some_chain(self, system, one, other):
        if not are_linked(system, one, other):
            return one, ()
        many = fewest_steps(system, other)
        at, steps = one, []
        while at != other:
            at, index = min(
                (after, index) for after in many if many[after] == many[at] - 1
                for index in range(len(system[1])) if is_right_chain(system, (at, ((index, after),)))
            )
            steps.append((index, at))
        return one, tuple(steps)

    def test_a_contradictory_system_has_no_tree(self):
        for tree in all_trees(3):
            for grounds in [(), ((),), grounds_for((3, THREE[1][:2])), None]:
                self.assertIs(accepts_tree(THREE, tree, grounds), False)

    def test_a_tree_for_another_number_of_elements(self):
        self.assertIs(accepts_tree((2, ()), ("any", (0, 1, 2)), ()), False)
        self.assertIs(accepts_tree((3, ()), ("any", (0, 1)), ()), False)
        self.assertIs(accepts_tree((3, ()), ("any", (2, 0, 1)), ()), True)
        self.assertIs(accepts_tree((1, ()), 0, ()), True)

    def test_a_tree_with_too_few_rows_or_too_many(self):
        system = (3, ((1, 2),))
        tree, grounds = ("any", (0, ("any", (1, 2)))), grounds_for((3, ((1, 2),)))
        self.assertIs(accepts_tree(system, tree, grounds), True)
        self.assertIs(accepts_tree(system, ("any", (0, 1, 2)), ()), False)
        self.assertIs(accepts_tree((3, ()), tree, grounds), False)
        self.assertIs(accepts_tree((3, ((0, 1),)), tree, grounds), False)
        self.assertEqual([part for part in inner_parts(tree)][1], ("any", (1, 2)))
        self.assertEqual(canonical_by_rows(tree), tree)


if __name__ == "__main__":
    unittest.main()
