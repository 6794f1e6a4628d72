"""The examples of the document, word for word."""

import doctest
import unittest

INTERFACE_SYSTEMS = """
>>> from kepttogether.systems import derived, gaps, keeps, overlap, part, part_of_row, renamed, renamed_row, spans, together
>>> system = (5, ((0, 1, 2), (2, 3)))
>>> gaps(system, (0, 2, 3, 1, 4)), spans(system, (0, 2, 3, 1, 4)), together(system, (0, 2, 3, 1, 4))
(((3,), ()), ((0, 3), (1, 2)), (1,))
>>> keeps(system, (0, 1, 2, 3, 4)), keeps(system, (3, 4, 2, 0, 1))
(True, False)
>>> overlap((0, 1, 2), (2, 3)), derived(system)
(True, ((2,), (3,), (0, 1), (2, 3), (0, 1, 2), (0, 1, 2, 3)))
>>> part(system, (0, 2, 3, 4)), part_of_row((0, 1, 2, 3, 4), (0, 2, 3, 4))
((4, ((0, 1), (1, 2))), (0, 1, 2, 3))
>>> renamed(system, (4, 3, 2, 1, 0)), renamed_row((0, 1, 2, 3, 4), (1, 0, 2, 3, 4))
((5, ((2, 3, 4), (1, 2))), (1, 0, 2, 3, 4))
"""

# From the example under kepttogether/deciding.py: all of its calls of kepttogether.sides.
INTERFACE_SIDES = """
>>> from kepttogether.sides import circle, contradiction, required, respects, shows_contradiction, sides_of
>>> round_about = ((0, -1, 1), (1, 0, -1), (-1, 1, 0))
>>> system = (3, ((0,), (1,), (2,)))
>>> required(system, round_about), contradiction(system, round_about), circle(system, round_about)
(((0, 1), (1, 2), (2, 0)), None, (0, 1, 2))
>>> contradiction(system, ((0, -1, 1), (1, 0, -1), (1, 1, 0)))
((0, 2), 2, 0)
>>> shows_contradiction(system, ((0, -1, 1), (1, 0, -1), (1, 1, 0)), ((2, 0), 0, 2))
True
>>> sides_of((4, ((2, 3), ())), (1, 3, 2, 0)), respects((4, ((2, 3), ())), ((-1, 1, 0, 0), (0, 0, 0, 0)), (1, 2, 3, 0))
(((-1, 1, 0, 0), (0, 0, 0, 0)), True)
"""

# Point 18: the system of five elements with the sets 0 1 2 and 2 3 has the derived sets 2, 0 1, 3,
# and 0 1 2 3 besides. In the row 0 2 3 1 4 the set 0 1 2 has the gap 3.
POINT_18 = """
>>> from kepttogether.systems import derived, gaps
>>> system = (5, ((0, 1, 2), (2, 3)))
>>> sorted(set(derived(system)) - set(system[1])) == sorted([(2,), (0, 1), (3,), (0, 1, 2, 3)])
True
>>> gaps(system, (0, 2, 3, 1, 4))[0]
(3,)
"""

# Point 29: with the sets {0}, {1}, {2} of three elements, sides can have 0 before 1, 1 before 2, and
# 2 before 0. They are consistent, and no row respects them.
POINT_29 = """
>>> from itertools import permutations
>>> from kepttogether.sides import contradiction, is_sides, required, respects
>>> system, sides = (3, ((0,), (1,), (2,))), ((0, -1, 1), (1, 0, -1), (-1, 1, 0))
>>> is_sides(system, sides), set(required(system, sides)) == {(0, 1), (1, 2), (2, 0)}
(True, True)
>>> contradiction(system, sides) is None, any(respects(system, sides, row) for row in permutations(range(3)))
(True, False)
"""


class Examples(unittest.TestCase):
    def check(self, text, many):
        example = doctest.DocTestParser().get_doctest(text, {}, "example", None, None)
        self.assertEqual(len(example.examples), many)
        told = []
        failed, tried = doctest.DocTestRunner(verbose=False).run(example, out=told.append)
        self.assertEqual((failed, tried), (0, many), "".join(told))

    def test_the_interface_of_systems(self):
        self.check(INTERFACE_SYSTEMS, 7)

    def test_the_interface_of_sides(self):
        self.check(INTERFACE_SIDES, 7)

    def test_point_18(self):
        self.check(POINT_18, 4)

    def test_point_29(self):
        self.check(POINT_29, 5)


if __name__ == "__main__":
    unittest.main()
