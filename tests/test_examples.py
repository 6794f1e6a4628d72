"""The examples of the document, word for word."""

import doctest
import unittest

INTERFACE_SYSTEMS = """
>>> from kepttogether.systems import derived, gaps, keeps, overlap, part, part_of_row, renamed, renamed_row, spans, together
>>> system = (5, ((0, 1, 2), (2, 3)))
>>> gaps(system, (0, 2, 3, 1, 4)), spans(system, (0, 2, 3, 1, 4)), together(system, (0, 2, 3, 1, 4))
(((3,), ()), ((0, 3), (1, 2)), (1,))
>>> keeps(system, (0, 1, 2, 3, 4)), keeps(system, (3, 4, 2, 0, 1))
(True, False)
>>> overlap((0, 1, 2), (2, 3)), derived(system)
(True, ((2,), (3,), (0, 1), (2, 3), (0, 1, 2), (0, 1, 2, 3)))
>>> part(system, (0, 2, 3, 4)), part_of_row((0, 1, 2, 3, 4), (0, 2, 3, 4))
((4, ((0, 1), (1, 2))), (0, 1, 2, 3))
>>> renamed(system, (4, 3, 2, 1, 0)), renamed_row((0, 1, 2, 3, 4), (1, 0, 2, 3, 4))
((5, ((2, 3, 4), (1, 2))), (1, 0, 2, 3, 4))
"""

INTERFACE_DECIDING = """
>>> from kepttogether.deciding import tournament_of
>>> from kepttogether.sides import circle, contradiction, required, respects, shows_contradiction, sides_of
>>> round_about = ((0, -1, 1), (1, 0, -1), (-1, 1, 0))
>>> system = (3, ((0,), (1,), (2,)))
>>> required(system, round_about), contradiction(system, round_about), circle(system, round_about)
(((0, 1), (1, 2), (2, 0)), None, (0, 1, 2))
>>> contradiction(system, ((0, -1, 1), (1, 0, -1), (1, 1, 0)))
((0, 2), 2, 0)
>>> shows_contradiction(system, ((0, -1, 1), (1, 0, -1), (1, 1, 0)), ((2, 0), 0, 2))
True
>>> sides_of((4, ((2, 3), ())), (1, 3, 2, 0)), respects((4, ((2, 3), ())), ((-1, 1, 0, 0), (0, 0, 0, 0)), (1, 2, 3, 0))
(((-1, 1, 0, 0), (0, 0, 0, 0)), True)
>>> tournament_of((4, ((2, 3),)), ((-1, 1, 0, 0),))
((1, 0), (1, 2), (1, 3), (2, 0), (2, 3), (3, 0))
"""

INTERFACE_LINKS = """
>>> from kepttogether.links import are_linked, class_of, contradictory_pair, count_sides, listed_classes, steps_from
>>> system = (3, ((0, 1), (1, 2)))
>>> steps_from(system, (0, 1)), class_of(system, (0, 1))
([(1, (0, 2))], ((0, 1), (0, 2), (1, 2)))
>>> listed_classes(system), count_sides(system), contradictory_pair(system)
([((0, 1), (0, 2), (1, 2))], 2, None)
>>> more = (3, ((0, 1), (1, 2), (0, 2)))
>>> contradictory_pair(more), count_sides(more), listed_classes(more)
((0, 1), 0, None)
>>> listed_classes((4, ((2, 3),))), count_sides((4, ((2, 3),)))
([((0, 1),), ((0, 2), (0, 3)), ((1, 2), (1, 3)), ((2, 3),)], 4)
>>> are_linked((4, ((2, 3),)), (0, 2), (3, 0))
False
"""

INTERFACE_CHAINS = """
>>> from kepttogether.chains import accepts_refutation, fault, mirrored, refutation, shortened, turned
>>> system = (3, ((0, 1), (1, 2), (0, 2)))
>>> chain = ((0, 1), ((1, (0, 2)), (0, (1, 2)), (2, (1, 0))))
>>> fault(system, chain), accepts_refutation(system, chain), len(refutation(system)[1])
(None, True, 3)
>>> fault(system, ((0, 1), ((1, (0, 2)), (1, (1, 2)))))
(1, 'inside')
>>> turned(system, ((0, 1), ((1, (0, 2)), (0, (1, 2)))))
((1, 2), ((0, (0, 2)), (1, (0, 1))))
>>> mirrored(system, ((0, 1), ((1, (0, 2)),)))
((1, 0), ((1, (2, 0)),))
>>> shortened(system, ((0, 1), ((1, (0, 2)), (1, (0, 1)), (1, (0, 2)), (0, (1, 2)))))
((0, 1), ((1, (0, 2)), (0, (1, 2))))
>>> refutation((3, ((0, 1), (1, 2)))) is None
True
"""

# From the example under kepttogether/solving.py: all of its calls of kepttogether.tournaments.
INTERFACE_TOURNAMENTS = """
>>> from kepttogether.tournaments import components, is_closed, row_of, smallest_closed
>>> about = ((0, 1), (1, 2), (2, 0))
>>> components(3, about), row_of(3, about), smallest_closed(3, about, (0, 2))
(((0, 1, 2),), (0, 1, 2), (0, 1, 2))
>>> ladder = ((0, 2), (0, 3), (1, 0), (1, 2), (1, 3), (2, 3))
>>> components(4, ladder), row_of(4, ladder), is_closed(4, ladder, (0, 1)), is_closed(4, ladder, (0, 2))
(((1,), (0,), (2,), (3,)), (1, 0, 2, 3), True, True)
"""

# Point 18: the system of five elements with the sets 0 1 2 and 2 3 has the derived sets 2, 0 1, 3,
# and 0 1 2 3 besides. In the row 0 2 3 1 4 the set 0 1 2 has the gap 3.
POINT_18 = """
>>> from kepttogether.systems import derived, gaps
>>> system = (5, ((0, 1, 2), (2, 3)))
>>> sorted(set(derived(system)) - set(system[1])) == sorted([(2,), (0, 1), (3,), (0, 1, 2, 3)])
True
>>> gaps(system, (0, 2, 3, 1, 4))[0]
(3,)
"""

# Point 29: with the sets {0}, {1}, {2} of three elements, sides can have 0 before 1, 1 before 2, and
# 2 before 0. They are consistent, and no row respects them.
POINT_29 = """
>>> from itertools import permutations
>>> from kepttogether.sides import contradiction, is_sides, required, respects
>>> system, sides = (3, ((0,), (1,), (2,))), ((0, -1, 1), (1, 0, -1), (-1, 1, 0))
>>> is_sides(system, sides), set(required(system, sides)) == {(0, 1), (1, 2), (2, 0)}
(True, True)
>>> contradiction(system, sides) is None, any(respects(system, sides, row) for row in permutations(range(3)))
(True, False)
"""

# Point 40: with three elements and the sets 0 1 and 1 2, the second set leads from (0, 1) to (0, 2), and
# from there the first one to (1, 2). With the set 0 2 as a third one, it leads on from (1, 2) to (1, 0):
# the system is contradictory.
POINT_40 = """
>>> from kepttogether.links import are_linked, contradictory_pair, is_contradictory, steps_from
>>> system, more = (3, ((0, 1), (1, 2))), (3, ((0, 1), (1, 2), (0, 2)))
>>> (1, (0, 2)) in steps_from(system, (0, 1)), (0, (1, 2)) in steps_from(system, (0, 2))
(True, True)
>>> (2, (1, 0)) in steps_from(more, (1, 2)), are_linked(more, (0, 1), (1, 0)), contradictory_pair(more)
(True, True, (0, 1))
>>> is_contradictory(system), is_contradictory(more)
(False, True)
"""

# Point 50: three elements, and the three sets of two of them: (0, 1), (1, 2) and (0, 2). From the pair (0, 1)
# the second set leads to (0, 2), because 1 and 2 are in it and 0 is not; from there the first set leads to
# (1, 2), and the third one to (1, 0). So no row keeps all three sets together.
POINT_50 = """
>>> from itertools import permutations
>>> from kepttogether.chains import accepts_refutation, end_of, fault, refutation
>>> from kepttogether.systems import keeps
>>> system = (3, ((0, 1), (1, 2), (0, 2)))
>>> chain = ((0, 1), ((1, (0, 2)), (0, (1, 2)), (2, (1, 0))))
>>> fault(system, chain), end_of(system, chain), accepts_refutation(system, chain)
(None, (1, 0), True)
>>> refutation(system) is None, any(keeps(system, row) for row in permutations(range(3)))
(False, False)
"""

# Point 62, its first sentence: three elements that precede one another in a circle form one component, and
# each of them is a block. (So the row has them in the order of the elements, whichever way the circle goes.)
POINT_62_FIRST = """
>>> from kepttogether.tournaments import components, row_of, smallest_closed
>>> one, other = ((0, 1), (1, 2), (2, 0)), ((0, 2), (1, 0), (2, 1))
>>> components(3, one), components(3, other)
(((0, 1, 2),), ((0, 1, 2),))
>>> [smallest_closed(3, one, chosen) for chosen in [(0, 1), (0, 2), (1, 2)]] == [(0, 1, 2)] * 3
True
>>> row_of(3, one), row_of(3, other)
((0, 1, 2), (0, 1, 2))
"""


class Examples(unittest.TestCase):
    def check(self, text, many):
        example = doctest.DocTestParser().get_doctest(text, {}, "example", None, None)
        self.assertEqual(len(example.examples), many)
        told = []
        failed, tried = doctest.DocTestRunner(verbose=False).run(example, out=told.append)
        self.assertEqual((failed, tried), (0, many), "".join(told))

    def test_the_interface_of_systems(self):
        self.check(INTERFACE_SYSTEMS, 7)

    def test_the_interface_of_deciding(self):
        self.check(INTERFACE_DECIDING, 9)

    def test_the_interface_of_links(self):
        self.check(INTERFACE_LINKS, 8)

    def test_the_interface_of_chains(self):
        self.check(INTERFACE_CHAINS, 9)

    def test_the_interface_of_tournaments(self):
        self.check(INTERFACE_TOURNAMENTS, 5)

    def test_point_18(self):
        self.check(POINT_18, 4)

    def test_point_29(self):
        self.check(POINT_29, 5)

    def test_point_40(self):
        self.check(POINT_40, 5)

    def test_point_50(self):
        self.check(POINT_50, 7)

    def test_point_62_its_first_sentence(self):
        self.check(POINT_62_FIRST, 5)


if __name__ == "__main__":
    unittest.main()
