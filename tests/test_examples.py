"""The examples of the document, word for word."""

import doctest
import unittest

INTERFACE_SYSTEMS = """
>>> from kepttogether.systems import derived, gaps, keeps, overlap, part, part_of_row, renamed, renamed_row, spans, together
>>> system = (5, ((0, 1, 2), (2, 3)))
>>> gaps(system, (0, 2, 3, 1, 4)), spans(system, (0, 2, 3, 1, 4)), together(system, (0, 2, 3, 1, 4))
(((3,), ()), ((0, 3), (1, 2)), (1,))
>>> keeps(system, (0, 1, 2, 3, 4)), keeps(system, (3, 4, 2, 0, 1))
(True, False)
>>> overlap((0, 1, 2), (2, 3)), derived(system)
(True, ((2,), (3,), (0, 1), (2, 3), (0, 1, 2), (0, 1, 2, 3)))
>>> part(system, (0, 2, 3, 4)), part_of_row((0, 1, 2, 3, 4), (0, 2, 3, 4))
((4, ((0, 1), (1, 2))), (0, 1, 2, 3))
>>> renamed(system, (4, 3, 2, 1, 0)), renamed_row((0, 1, 2, 3, 4), (1, 0, 2, 3, 4))
((5, ((2, 3, 4), (1, 2))), (1, 0, 2, 3, 4))
"""

INTERFACE_DECIDING = """
>>> from kepttogether.deciding import tournament_of
>>> from kepttogether.sides import circle, contradiction, required, respects, shows_contradiction, sides_of
>>> round_about = ((0, -1, 1), (1, 0, -1), (-1, 1, 0))
>>> system = (3, ((0,), (1,), (2,)))
>>> required(system, round_about), contradiction(system, round_about), circle(system, round_about)
(((0, 1), (1, 2), (2, 0)), None, (0, 1, 2))
>>> contradiction(system, ((0, -1, 1), (1, 0, -1), (1, 1, 0)))
((0, 2), 2, 0)
>>> shows_contradiction(system, ((0, -1, 1), (1, 0, -1), (1, 1, 0)), ((2, 0), 0, 2))
True
>>> sides_of((4, ((2, 3), ())), (1, 3, 2, 0)), respects((4, ((2, 3), ())), ((-1, 1, 0, 0), (0, 0, 0, 0)), (1, 2, 3, 0))
(((-1, 1, 0, 0), (0, 0, 0, 0)), True)
>>> tournament_of((4, ((2, 3),)), ((-1, 1, 0, 0),))
((1, 0), (1, 2), (1, 3), (2, 0), (2, 3), (3, 0))
"""

INTERFACE_LINKS = """
>>> from kepttogether.links import are_linked, class_of, contradictory_pair, count_sides, listed_classes, steps_from
>>> system = (3, ((0, 1), (1, 2)))
>>> steps_from(system, (0, 1)), class_of(system, (0, 1))
([(1, (0, 2))], ((0, 1), (0, 2), (1, 2)))
>>> listed_classes(system), count_sides(system), contradictory_pair(system)
([((0, 1), (0, 2), (1, 2))], 2, None)
>>> more = (3, ((0, 1), (1, 2), (0, 2)))
>>> contradictory_pair(more), count_sides(more), listed_classes(more)
((0, 1), 0, None)
>>> listed_classes((4, ((2, 3),))), count_sides((4, ((2, 3),)))
([((0, 1),), ((0, 2), (0, 3)), ((1, 2), (1, 3)), ((2, 3),)], 4)
>>> are_linked((4, ((2, 3),)), (0, 2), (3, 0))
False
"""

INTERFACE_CHAINS = """
>>> from kepttogether.chains import accepts_refutation, fault, mirrored, refutation, shortened, turned
>>> system = (3, ((0, 1), (1, 2), (0, 2)))
>>> chain = ((0, 1), ((1, (0, 2)), (0, (1, 2)), (2, (1, 0))))
>>> fault(system, chain), accepts_refutation(system, chain), len(refutation(system)[1])
(None, True, 3)
>>> fault(system, ((0, 1), ((1, (0, 2)), (1, (1, 2)))))
(1, 'inside')
>>> turned(system, ((0, 1), ((1, (0, 2)), (0, (1, 2)))))
((1, 2), ((0, (0, 2)), (1, (0, 1))))
>>> mirrored(system, ((0, 1), ((1, (0, 2)),)))
((1, 0), ((1, (2, 0)),))
>>> shortened(system, ((0, 1), ((1, (0, 2)), (1, (0, 1)), (1, (0, 2)), (0, (1, 2)))))
((0, 1), ((1, (0, 2)), (0, (1, 2))))
>>> refutation((3, ((0, 1), (1, 2)))) is None
True
"""

INTERFACE_SOLVING = """
>>> from kepttogether.solving import accepts, row_of_sides, solve
>>> from kepttogether.tournaments import components, is_closed, row_of, smallest_closed
>>> about = ((0, 1), (1, 2), (2, 0))
>>> components(3, about), row_of(3, about), smallest_closed(3, about, (0, 2))
(((0, 1, 2),), (0, 1, 2), (0, 1, 2))
>>> ladder = ((0, 2), (0, 3), (1, 0), (1, 2), (1, 3), (2, 3))
>>> components(4, ladder), row_of(4, ladder), is_closed(4, ladder, (0, 1)), is_closed(4, ladder, (0, 2))
(((1,), (0,), (2,), (3,)), (1, 0, 2, 3), True, True)
>>> row_of_sides((4, ((2, 3),)), ((-1, 1, 0, 0),)), row_of_sides((3, ((0,), (1,), (2,))), ((0, -1, 1), (1, 0, -1), (-1, 1, 0)))
((1, 2, 3, 0), (0, 1, 2))
>>> solve((3, ((0, 1), (1, 2)))), solve((3, ((0, 1), (1, 2), (0, 2))))[0]
(('row', (0, 1, 2)), 'chain')
>>> accepts((3, ((0, 1), (1, 2))), ("row", (2, 1, 0))), accepts((3, ((0, 1), (1, 2))), ("row", (0, 2, 1)))
(True, False)
"""

INTERFACE_REDUCING = """
>>> from kepttogether.reducing import accepts_tree, grounds_for, reduced, tree_of
>>> from kepttogether.trees import canonical, count_rows, fits, is_row_of, told_sets, tree_text
>>> system = (5, ((0, 1, 2), (2, 3, 4)))
>>> tree_of(system)
('turn', (('any', (0, 1)), 2, ('any', (3, 4))))
>>> tree_text(tree_of(system)), count_rows(tree_of(system)), is_row_of(tree_of(system), (4, 3, 2, 0, 1))
('[(0 1) 2 (3 4)]', 8, True)
>>> told_sets(tree_of(system)), fits(tree_of(system), (0, 1)), fits(tree_of(system), (1, 2))
([(0, 1), (0, 1, 2), (2, 3, 4), (3, 4)], True, False)
>>> canonical(("turn", (("any", (4, 3)), 2, ("any", (1, 0))))) == tree_of(system)
True
>>> reduced(("any", (0, 1, 2, 3, 4)), (1, 3)), tree_of((3, ((0, 1), (0, 2), (1, 2))))
(('any', (0, ('any', (1, 3)), 2, 4)), None)
>>> accepts_tree(system, tree_of(system), grounds_for(system)), accepts_tree(system, ("any", (0, 1, 2, 3, 4)), ())
(True, False)
"""

INTERFACE_LISTING = """
>>> from kepttogether.listing import count_beginning, count_kept, index_of_kept, kept_rows, nth_kept
>>> system = (5, ((0, 1, 2), (2, 3, 4)))
>>> count_kept(system), count_beginning(system, (3, 4)), count_beginning(system, (2,))
(8, 2, 0)
>>> nth_kept(system, 2), index_of_kept(system, (4, 3, 2, 1, 0)), index_of_kept(system, (2, 0, 1, 3, 4)) is None
((1, 0, 2, 3, 4), 7, True)
>>> kept_rows(system, (0,), 1, 5)
[(0, 1, 2, 4, 3)]
"""

INTERFACE_PROPERTIES = """
>>> from kepttogether.properties import accepts_evidence, evidence_for, has, told
>>> system = (5, ((0, 1, 2), (2, 3, 4)))
>>> told(system, ("equivalent", (0, 2), (1, 4))), told(system, ("equivalent", (0, 2), (4, 3))), told(system, ("equivalent", (0, 2), (2, 1)))
('always', 'sometimes', 'never')
>>> told(system, ("together", (0, 1))), told(system, ("together", (1, 2))), told(system, ("together", (0, 3)))
('always', 'sometimes', 'never')
>>> told(system, ("between", 0, 2, 3)), told(system, ("between", 0, 1, 2)), told(system, ("between", 0, 3, 2))
('always', 'sometimes', 'never')
>>> told(system, ("first", 0)), told(system, ("first", 2)), has(system, (0, 1, 2, 3, 4), ("between", 1, 2, 4))
('sometimes', 'never', True)
>>> accepts_evidence(system, ("between", 0, 2, 3), ("always", (((0, 2), ((1, (0, 3)), (0, (2, 3)))),)))
True
>>> accepts_evidence(system, ("first", 0), ("sometimes", (0, 1, 2, 3, 4), (1, 0, 2, 3, 4)))
True
"""

INTERFACE_COLLECTIONS = """
>>> from kepttogether.collections import accepts_grounds, can_be_left_out, grounds_for, is_possible, smallest_base, told_base
>>> from kepttogether.conflicts import accepts_conflict, conflict_grounds, smallest_conflict, smallest_removal, told_conflict
>>> four = (4, ((0, 1), (1, 2), (0, 1, 2), (2, 3)))
>>> can_be_left_out(four, (0, 1, 2, 3), 2), told_base(four), smallest_base(four)
(True, (0, 1, 3), (0, 1, 3))
>>> can_be_left_out(four, (1, 2, 3), 2), accepts_grounds(four, (0, 1, 2, 3), 2, grounds_for(four, (0, 1, 2, 3), 2))
(False, True)
>>> more = (4, ((0, 1), (1, 2), (0, 1, 2), (2, 3), (0, 2)))
>>> is_possible(more, (0, 1, 4)), told_conflict(more), smallest_conflict(more), smallest_removal(more)
(False, (0, 1, 4), (0, 1, 4), (1,))
>>> accepts_conflict(more, (0, 1, 4), conflict_grounds(more, (0, 1, 4))), conflict_grounds(more, (0, 1)) is None
(True, True)
"""

INTERFACE_READING = """
>>> from kepttogether.reading import next_tokens, read_chain, read_row, read_system
>>> from kepttogether.writing import chain_text, row_text, system_text
>>> system = read_system("4: 1 0 | - | 3 2 1")
>>> system, system_text(system)
((4, ((0, 1), (), (1, 2, 3))), '4: 0 1 | - | 1 2 3')
>>> read_row(4, "2 0 1 3"), row_text((2, 0, 1, 3))
((2, 0, 1, 3), '2 0 1 3')
>>> read_chain(system, "0<1 / 2: 0<3"), chain_text(system, ((0, 1), ((2, (0, 3)),)))
(((0, 1), ((2, (0, 3)),)), '0<1 / 2: 0<3')
>>> next_tokens("4:", "system"), next_tokens("4: 1", "system"), next_tokens("0<1", "chain")
(['a number', '"-"', 'the end'], ['a number', '"|"', 'the end'], ['"/"', 'the end'])
"""

# The last call of this part of the interface raises TextError(12, "there is no such element").
INTERFACE_TEXT_ERROR = """
>>> from kepttogether.reading import read_system
>>> from kepttogether.errors import TextError
>>> try:
...     read_system("3: 0 1 | 2 3")
... except TextError as error:
...     error.column, error.words
(12, 'there is no such element')
"""

INTERFACE_EDITOR = """
>>> from kepttogether.editor import Editor
>>> from kepttogether.journals import are_right, replayed
>>> editor = Editor(("elegy", "march", "waltz"))
>>> editor.act(("add", "ada", ("march", "elegy"))), editor.act(("add", "bob", ("waltz", "march")))
(1, 2)
>>> editor.sets(), editor.system()
((('ada', ('elegy', 'march')), ('bob', ('march', 'waltz'))), (3, ((0, 1), (1, 2))))
>>> editor.accepts(("row", ("elegy", "march", "waltz"))), editor.accepts(("row", ("march", "elegy", "waltz")))
(True, False)
>>> editor.act(("add", "cyd", ("elegy", "waltz"))), editor.answer()[0]
(3, 'chain')
>>> chain = (("elegy", "march"), (("bob", ("elegy", "waltz")), ("ada", ("march", "waltz")), ("cyd", ("march", "elegy"))))
>>> editor.accepts(("chain", chain)), are_right(("elegy", "march", "waltz"), editor.records())
(True, True)
>>> editor.undo(), editor.answer()[0], replayed(editor.names(), editor.journal()).sets() == editor.sets()
(('add', 'cyd', ('elegy', 'waltz')), 'row', True)
"""

# Point 18: the system of five elements with the sets 0 1 2 and 2 3 has the derived sets 2, 0 1, 3,
# and 0 1 2 3 besides. In the row 0 2 3 1 4 the set 0 1 2 has the gap 3.
POINT_18 = """
>>> from kepttogether.systems import derived, gaps
>>> system = (5, ((0, 1, 2), (2, 3)))
>>> sorted(set(derived(system)) - set(system[1])) == sorted([(2,), (0, 1), (3,), (0, 1, 2, 3)])
True
>>> gaps(system, (0, 2, 3, 1, 4))[0]
(3,)
"""

# Point 29: with the sets {0}, {1}, {2} of three elements, sides can have 0 before 1, 1 before 2, and
# 2 before 0. They are consistent, and no row respects them.
POINT_29 = """
>>> from itertools import permutations
>>> from kepttogether.sides import contradiction, is_sides, required, respects
>>> system, sides = (3, ((0,), (1,), (2,))), ((0, -1, 1), (1, 0, -1), (-1, 1, 0))
>>> is_sides(system, sides), set(required(system, sides)) == {(0, 1), (1, 2), (2, 0)}
(True, True)
>>> contradiction(system, sides) is None, any(respects(system, sides, row) for row in permutations(range(3)))
(True, False)
"""

# Point 40: with three elements and the sets 0 1 and 1 2, the second set leads from (0, 1) to (0, 2), and
# from there the first one to (1, 2). With the set 0 2 as a third one, it leads on from (1, 2) to (1, 0):
# the system is contradictory.
POINT_40 = """
>>> from kepttogether.links import are_linked, contradictory_pair, is_contradictory, steps_from
>>> system, more = (3, ((0, 1), (1, 2))), (3, ((0, 1), (1, 2), (0, 2)))
>>> (1, (0, 2)) in steps_from(system, (0, 1)), (0, (1, 2)) in steps_from(system, (0, 2))
(True, True)
>>> (2, (1, 0)) in steps_from(more, (1, 2)), are_linked(more, (0, 1), (1, 0)), contradictory_pair(more)
(True, True, (0, 1))
>>> is_contradictory(system), is_contradictory(more)
(False, True)
"""

# Point 50: three elements, and the three sets of two of them: (0, 1), (1, 2) and (0, 2). From the pair (0, 1)
# the second set leads to (0, 2), because 1 and 2 are in it and 0 is not; from there the first set leads to
# (1, 2), and the third one to (1, 0). So no row keeps all three sets together.
POINT_50 = """
>>> from itertools import permutations
>>> from kepttogether.chains import accepts_refutation, end_of, fault, refutation
>>> from kepttogether.systems import keeps
>>> system = (3, ((0, 1), (1, 2), (0, 2)))
>>> chain = ((0, 1), ((1, (0, 2)), (0, (1, 2)), (2, (1, 0))))
>>> fault(system, chain), end_of(system, chain), accepts_refutation(system, chain)
(None, (1, 0), True)
>>> refutation(system) is None, any(keeps(system, row) for row in permutations(range(3)))
(False, False)
"""

# Point 62: three elements that precede one another in a circle form one component, and each of them is a
# block. (So the row has them in the order of the elements, whichever way the circle goes.) With the sets
# {0, 1}, {1, 2} and {0, 2} of three elements there is no row, and a chain of three steps shows it.
POINT_62 = """
>>> from itertools import permutations
>>> from kepttogether.solving import accepts, solve
>>> from kepttogether.tournaments import components, row_of, smallest_closed
>>> one, other = ((0, 1), (1, 2), (2, 0)), ((0, 2), (1, 0), (2, 1))
>>> components(3, one), components(3, other)
(((0, 1, 2),), ((0, 1, 2),))
>>> [smallest_closed(3, one, chosen) for chosen in [(0, 1), (0, 2), (1, 2)]] == [(0, 1, 2)] * 3
True
>>> row_of(3, one), row_of(3, other)
((0, 1, 2), (0, 1, 2))
>>> system = (3, ((0, 1), (1, 2), (0, 2)))
>>> word, (pair, steps) = solve(system)
>>> word, len(steps), accepts(system, (word, (pair, steps)))
('chain', 3, True)
>>> any(accepts(system, ("row", row)) for row in permutations(range(3)))
False
"""

# Point 73: of five elements, 0, 1, 2 have to stay together, and 2, 3, 4. Then 2 stands in the middle, 0 and 1
# in any order on one side of it, and 3 and 4 on the other.
POINT_73 = """
>>> from itertools import permutations
>>> from kepttogether.reducing import tree_of
>>> from kepttogether.trees import is_row_of
>>> tree = tree_of((5, ((0, 1, 2), (2, 3, 4))))
>>> tree
('turn', (('any', (0, 1)), 2, ('any', (3, 4))))
>>> found = [row for row in permutations(range(5)) if is_row_of(tree, row)]
>>> {row[2] for row in found}, sorted({tuple(sorted(row[:2])) for row in found}), len(found)
({2}, [(0, 1), (3, 4)], 8)
"""

# Point 81: the system of point 73 has eight keeping rows; the first one is 0, 1, 2, 3, 4, and the last one
# 4, 3, 2, 1, 0.
POINT_81 = """
>>> from kepttogether.listing import count_kept, nth_kept
>>> system = (5, ((0, 1, 2), (2, 3, 4)))
>>> count_kept(system), nth_kept(system, 0), nth_kept(system, 7)
(8, (0, 1, 2, 3, 4), (4, 3, 2, 1, 0))
"""

# Point 91: five elements and the sets 0 1 2 and 2 3 4. In each row that keeps them, 2 is in the middle.
POINT_91 = """
>>> from itertools import permutations
>>> from kepttogether.properties import told
>>> from kepttogether.systems import keeps
>>> system = (5, ((0, 1, 2), (2, 3, 4)))
>>> {row[2] for row in permutations(range(5)) if keeps(system, row)}
{2}
>>> {told(system, ("between", x, 2, y)) for x in (0, 1) for y in (3, 4)}
{'always'}
"""

# Point 102: in a system of four elements with the sets 0 1, 1 2, 0 1 2 and 2 3, the set 0 1 2 can be left out.
# With the set 0 2 besides, no row keeps the sets 0 1, 1 2 and 0 2 together.
POINT_102 = """
>>> from itertools import permutations
>>> from kepttogether.collections import can_be_left_out, is_possible
>>> from kepttogether.systems import keeps
>>> sets = ((0, 1), (1, 2), (0, 1, 2), (2, 3))
>>> can_be_left_out((4, sets), (0, 1, 2, 3), 2)
True
>>> more = (4, sets + ((0, 2),))
>>> is_possible(more, (0, 1, 4)), any(keeps((4, ((0, 1), (1, 2), (0, 2))), row) for row in permutations(range(4)))
(False, False)
"""

# Point 113: the text 4: 1 0 | - | 3 2 1 is that of a system of four elements with the sets 0 1, the empty one, and
# 1 2 3.
POINT_113 = """
>>> from kepttogether.reading import read_system
>>> read_system("4: 1 0 | - | 3 2 1") == (4, ((0, 1), (), (1, 2, 3)))
True
"""

# Point 124: three pieces are to be played; those of Ada and those of Bob are to stay together, and then those of Cyd,
# too.
POINT_124 = """
>>> from kepttogether.editor import Editor
>>> editor = Editor(("elegy", "march", "waltz"))
>>> editor.act(("add", "ada", ("elegy", "march"))), editor.act(("add", "bob", ("march", "waltz")))
(1, 2)
>>> word, row = editor.answer()
>>> word, row.index("march"), editor.accepts((word, row))
('row', 1, True)
>>> editor.act(("add", "cyd", ("elegy", "waltz"))), editor.answer()[0], editor.accepts(editor.answer())
(3, 'chain', True)
>>> editor.accepts((word, row))
False
"""


class Examples(unittest.TestCase):
    def check(self, text, many):
        example = doctest.DocTestParser().get_doctest(text, {}, "example", None, None)
        self.assertEqual(len(example.examples), many)
        told = []
        failed, tried = doctest.DocTestRunner(verbose=False).run(example, out=told.append)
        self.assertEqual((failed, tried), (0, many), "".join(told))

    def test_the_interface_of_systems(self):
        self.check(INTERFACE_SYSTEMS, 7)

    def test_the_interface_of_deciding(self):
        self.check(INTERFACE_DECIDING, 9)

    def test_the_interface_of_links(self):
        self.check(INTERFACE_LINKS, 8)

    def test_the_interface_of_chains(self):
        self.check(INTERFACE_CHAINS, 9)

    def test_the_interface_of_tournaments_and_solving(self):
        self.check(INTERFACE_SOLVING, 9)

    def test_the_interface_of_trees_and_reducing(self):
        self.check(INTERFACE_REDUCING, 9)

    def test_the_interface_of_listing(self):
        self.check(INTERFACE_LISTING, 5)

    def test_the_interface_of_properties(self):
        self.check(INTERFACE_PROPERTIES, 8)

    def test_the_interface_of_collections_and_conflicts(self):
        self.check(INTERFACE_COLLECTIONS, 8)

    def test_the_interface_of_reading_and_writing(self):
        self.check(INTERFACE_READING, 7)
        self.check(INTERFACE_TEXT_ERROR, 3)

    def test_the_interface_of_editors_and_journals(self):
        self.check(INTERFACE_EDITOR, 10)

    def test_point_18(self):
        self.check(POINT_18, 4)

    def test_point_29(self):
        self.check(POINT_29, 5)

    def test_point_40(self):
        self.check(POINT_40, 5)

    def test_point_50(self):
        self.check(POINT_50, 7)

    def test_point_62(self):
        self.check(POINT_62, 11)

    def test_point_73(self):
        self.check(POINT_73, 7)

    def test_point_81(self):
        self.check(POINT_81, 3)

    def test_point_91(self):
        self.check(POINT_91, 6)

    def test_point_102(self):
        self.check(POINT_102, 7)

    def test_point_113(self):
        self.check(POINT_113, 2)

    def test_point_124(self):
        self.check(POINT_124, 7)


if __name__ == "__main__":
    unittest.main()
