"""Points 1 to 4, 7 and 8, and the interface: kinds of results, equal calls, errors, names and parameters."""

import inspect
import unittest
from copy import deepcopy
from importlib import import_module

from kepttogether import errors
from kepttogether.chains import (
    accepts_chain, accepts_refutation, end_of, fault, joined, mirrored, refutation, shortened, shortest, turned,
)
from kepttogether.deciding import tournament_of
from kepttogether.errors import BadValue, NotPossible, TextError, TogetherError, TooLarge
from kepttogether.links import (
    are_linked, class_of, contradictory_pair, count_sides, is_contradictory, listed_classes, steps_from,
)
from kepttogether.listing import count_beginning, count_kept, index_of_kept, kept_rows, nth_kept
from kepttogether.reducing import accepts_tree, grounds_for, reduced, tree_of
from kepttogether.sides import (
    circle, contradiction, is_sides, required, respects, shows_circle, shows_contradiction, sides_of,
)
from kepttogether.solving import accepts, row_of_sides, solve
from kepttogether.systems import (
    derived, gaps, is_row, is_system, keeps, overlap, part, part_of_row, renamed, renamed_row, spans, together,
)
from kepttogether.tournaments import components, is_closed, is_tournament, row_of, smallest_closed
from kepttogether.trees import canonical, count_rows, fits, is_row_of, is_tree, told_sets, tree_text
from growing import all_trees, drawn_trees, leaves
from support import (
    EDGE_SYSTEMS, LARGE_SYSTEMS, all_tournaments, are_consistent, drawn_sides, drawn_tournaments, keeping_rows,
    linked_pairs, pairs, systems_and_sides,
)

INTERFACE = {
    "systems": {
        "is_system": ["value"], "is_row": ["value", "size"], "spans": ["system", "row"], "gaps": ["system", "row"],
        "together": ["system", "row"], "keeps": ["system", "row"], "overlap": ["first", "second"],
        "derived": ["system"], "part": ["system", "members"], "part_of_row": ["row", "members"],
        "renamed": ["system", "order"], "renamed_row": ["row", "order"],
    },
    "sides": {
        "is_sides": ["system", "value"], "required": ["system", "sides"], "contradiction": ["system", "sides"],
        "circle": ["system", "sides"], "respects": ["system", "sides", "row"], "sides_of": ["system", "row"],
        "shows_contradiction": ["system", "sides", "value"], "shows_circle": ["system", "sides", "value"],
    },
    "deciding": {"tournament_of": ["system", "sides"]},
    "links": {
        "steps_from": ["system", "pair"], "class_of": ["system", "pair"], "are_linked": ["system", "pair", "other"],
        "contradictory_pair": ["system"], "is_contradictory": ["system"], "listed_classes": ["system"],
        "count_sides": ["system"],
    },
    "chains": {
        "fault": ["system", "chain"], "end_of": ["system", "chain"],
        "accepts_chain": ["system", "pair", "other", "value"], "accepts_refutation": ["system", "value"],
        "shortest": ["system", "pair", "other"], "refutation": ["system"], "turned": ["system", "chain"],
        "mirrored": ["system", "chain"], "joined": ["system", "first", "second"], "shortened": ["system", "chain"],
    },
    "tournaments": {
        "is_tournament": ["size", "value"], "is_closed": ["size", "tournament", "chosen"],
        "smallest_closed": ["size", "tournament", "chosen"], "components": ["size", "tournament"],
        "row_of": ["size", "tournament"],
    },
    "solving": {"row_of_sides": ["system", "sides"], "solve": ["system"], "accepts": ["system", "answer"]},
    "trees": {
        "is_tree": ["value", "size"], "count_rows": ["tree"], "is_row_of": ["tree", "row"], "canonical": ["tree"],
        "fits": ["tree", "chosen"], "told_sets": ["tree"], "tree_text": ["tree"],
    },
    "reducing": {
        "reduced": ["tree", "chosen"], "tree_of": ["system"], "grounds_for": ["system"],
        "accepts_tree": ["system", "tree", "grounds"],
    },
    "listing": {
        "count_kept": ["system"], "count_beginning": ["system", "beginning"], "nth_kept": ["system", "index"],
        "index_of_kept": ["system", "value"], "kept_rows": ["system", "beginning", "index", "many"],
    },
}
ERRORS = {
    "BadValue": ["name"], "TooLarge": ["what"], "NotPossible": ["why"], "TextError": ["column", "words"],
}
ROUND = (3, ((0,), (1,), (2,)))
ROUND_ABOUT = ((0, -1, 1), (1, 0, -1), (-1, 1, 0))
AGAINST = ((0, -1, 1), (1, 0, -1), (1, 1, 0))


def calls():
    """Calls of all functions with right arguments, each with the kind of its result (None where that is None)."""
    found = calls_of_systems() + calls_of_links() + calls_of_chains() + calls_of_tournaments()
    return found + calls_of_solving() + calls_of_trees() + calls_of_listing()


def calls_of_systems():
    found = []
    for system in EDGE_SYSTEMS + LARGE_SYSTEMS:
        row, order = tuple(range(system[0]))[::-1], tuple(range(1, system[0])) + (0,)
        found += [(function, (system, row), tuple) for function in (spans, gaps, together)]
        found += [(keeps, (system, row), bool), (is_row, (row, system[0]), bool), (is_system, (system,), bool)]
        found += [(derived, (system,), tuple), (part, (system, row[:1]), tuple), (part_of_row, (row, row[-1:]), tuple)]
        found += [(renamed, (system, order), tuple), (renamed_row, (row, order), tuple)]
        sides = drawn_sides(system, 1, "calls")[0]
        found += [(is_sides, (system, sides), bool), (required, (system, sides), tuple)]
        found += [(respects, (system, sides, row), bool), (shows_circle, (system, sides, [0, [1], 2]), bool)]
        found += [(shows_contradiction, (system, sides, [[0, 1], 0, 1]), bool), (is_system, ([system, []],), bool)]
        found += [(is_sides, (system, [list(sides)]), bool), (is_row, ([list(row)], 1), bool)]
        found += [(sides_of, (system, row), tuple) for row in (keeping_rows(system) if system[0] < 6 else [])]
    found += [(overlap, ((0, 1), (1, 2)), bool), (overlap, ((), (1, 2)), bool)]
    found += [(contradiction, (ROUND, AGAINST), tuple), (contradiction, (ROUND, ROUND_ABOUT), None)]
    found += [(circle, (ROUND, ROUND_ABOUT), tuple), (circle, (ROUND, ((0, -1, -1), (1, 0, -1), (1, 1, 0))), None)]
    return found


def is_no_way_back(system):
    """Whether no pair is linked to its reverse."""
    return not any(pair[::-1] in linked for pair, linked in linked_pairs(system).items())


def calls_of_links():
    found = []
    for system in EDGE_SYSTEMS + LARGE_SYSTEMS[:9]:
        for pair in pairs(system[0])[::7]:
            found += [(steps_from, (system, pair), list), (class_of, (system, pair), tuple)]
            found += [(are_linked, (system, pair, pair[::-1]), bool)]
        possible = is_no_way_back(system)
        found += [(contradictory_pair, (system,), None if possible else tuple), (count_sides, (system,), int)]
        found += [(is_contradictory, (system,), bool), (listed_classes, (system,), list if possible else None)]
        found += [
            (tournament_of, (system, sides), tuple if are_consistent(system, sides) else None)
            for sides in drawn_sides(system, 4, "tournaments")
        ]
    return found


def calls_of_chains():
    found = []
    for system in [system for system in EDGE_SYSTEMS + LARGE_SYSTEMS[:9] if system[0] > 1]:
        linked = linked_pairs(system)
        for pair, other in zip(pairs(system[0])[::3], pairs(system[0])[::2]):
            found += [(shortest, (system, pair, other), tuple if other in linked[pair] else None)]
        chain = shortest(system, (0, 1), max(linked[(0, 1)]))
        found += [(function, (system, chain), tuple) for function in (end_of, turned, mirrored, shortened)]
        found += [(joined, (system, chain, turned(system, chain)), tuple), (fault, (system, chain), None)]
        found += [(accepts_chain, (system, (0, 1), (1, 0), value), bool) for value in (chain, [[0, 1], [chain]])]
        found += [(accepts_refutation, (system, value), bool) for value in (chain, [[0, 1], [chain]])]
        found += [(refutation, (system,), None if is_no_way_back(system) else tuple)]
        if system[1]:
            found += [(fault, (system, ((0, 1), ((0, (0, 1)),))), tuple)]
    return found


def calls_of_tournaments():
    found = []
    for size in range(1, 9):
        for tournament in all_tournaments(size)[:3] if size < 4 else drawn_tournaments(size, 3, "calls"):
            chosen = tuple(range(0, size, 2))
            found += [(is_tournament, (size, value), bool) for value in (tournament, list(tournament), [[tournament]])]
            found += [(is_closed, (size, tournament, chosen), bool), (components, (size, tournament), tuple)]
            found += [(smallest_closed, (size, tournament, chosen), tuple), (row_of, (size, tournament), tuple)]
    return found


def calls_of_solving():
    found = []
    for system in EDGE_SYSTEMS + LARGE_SYSTEMS[:9]:
        possible = is_no_way_back(system)
        found += [(solve, (system,), tuple)]
        found += [(accepts, (system, answer), bool) for answer in (solve(system), ["row", [0]], ("row", [0]))]
        found += [(grounds_for, (system,), tuple if possible else None)]
        # A tree of one element is a number.
        found += [(tree_of, (system,), (tuple if system[0] > 1 else int) if possible else None)]
        trees = (tree_of(system), [tree_of(system)], ["any", [0, 1]])
        found += [(accepts_tree, (system, tree, grounds_for(system)), bool) for tree in trees]
        found += [(accepts_tree, (system, trees[0], grounds), bool) for grounds in ([], [[], []], ((), []), None)]
        found += [
            (row_of_sides, (system, sides), tuple if are_consistent(system, sides) else None)
            for sides in drawn_sides(system, 4, "rows of sides")
        ]
    return found


def calls_of_trees():
    found = []
    for tree in all_trees(1) + all_trees(2) + all_trees(3) + drawn_trees(5, 4, "calls") + drawn_trees(8, 4, "calls"):
        size = len(leaves(tree))
        row, kind = tuple(range(size)), tuple if size > 1 else int
        found += [(is_tree, (value, size), bool) for value in (tree, [tree], ["any", [0, 1]], ("any", [0, [1]]))]
        found += [(count_rows, (tree,), int), (is_row_of, (tree, row), bool), (canonical, (tree,), kind)]
        found += [(fits, (tree, chosen), bool) for chosen in ((), row[::2], row)]
        found += [(told_sets, (tree,), list), (tree_text, (tree,), str), (reduced, (tree, row), kind)]
    found += [(reduced, (("any", (0, 1, 2)), (0, 2)), tuple), (reduced, (("turn", (0, 1, 2)), (0, 2)), None)]
    return found


def calls_of_listing():
    found = []
    for system in EDGE_SYSTEMS + LARGE_SYSTEMS[:9]:
        possible = is_no_way_back(system)
        found += [(count_kept, (system,), int), (count_beginning, (system, ()), int)]
        found += [(count_beginning, (system, (system[0] - 1,)), int), (kept_rows, (system, (), 1, 3), list)]
        found += [(kept_rows, (system, (0,), 0, 5), list), (index_of_kept, (system, [0, [1]]), None)]
        if possible:
            row = nth_kept(system, 0)
            found += [(nth_kept, (system, 0), tuple), (index_of_kept, (system, row), int)]
            found += [(kept_rows, (system, row, 0, 5), list)]
    return found


class Results(unittest.TestCase):
    def check_kinds(self, value):
        """Tuples of tuples, integers, strings and None; no list, and no True or False in a tuple."""
        if type(value) is tuple:
            for item in value:
                self.check_kinds(item)
        else:
            self.assertIn(type(value), (int, str, type(None)))

    def test_kinds_of_results(self):
        for function, given, kind in calls():
            result = function(*given)
            self.assertIs(type(result), kind or type(None), (function.__name__, given))
            self.assertTrue(kind is bool or type(result) is not bool)
            if kind in (tuple, list):
                self.check_kinds(tuple(result))

    def test_all_functions_are_called(self):
        called = {function.__name__ for function, _, _ in calls()}
        self.assertEqual(called, {name for functions in INTERFACE.values() for name in functions})

    def test_a_returned_list_is_not_used_again(self):
        for function, given, kind in calls():
            if kind is list:
                found = function(*given)
                kept = list(found)
                found.extend([None, 0])
                found.reverse()
                self.assertEqual(function(*given), kept, (function.__name__, given))

    def test_equal_calls_return_equal_results(self):
        first = [function(*given) for function, given, _ in calls()]
        again = [function(*deepcopy(given)) for function, given, _ in reversed(calls())][::-1]
        self.assertEqual(repr(first), repr(again))

    def test_no_call_modifies_its_arguments(self):
        for function, given, _ in calls():
            before = repr(given)
            function(*given)
            self.assertEqual(repr(given), before, function.__name__)

    def test_orders(self):
        for system, sides in systems_and_sides():
            found = required(system, sides)
            self.assertEqual(list(found), sorted(set(found)))
        for system in EDGE_SYSTEMS + LARGE_SYSTEMS:
            found = derived(system)
            self.assertEqual(list(found), sorted(set(found), key=lambda chosen: (len(chosen), chosen)))


class Errors(unittest.TestCase):
    def test_classes(self):
        self.assertTrue(issubclass(TogetherError, ValueError))
        below = [getattr(errors, name) for name in ERRORS]
        for one in below:
            self.assertEqual([other for other in below if issubclass(one, other)], [one])
            self.assertEqual(one.__bases__, (TogetherError,))
        self.assertEqual(TogetherError.__bases__, (ValueError,))

    def test_attributes(self):
        self.assertEqual(BadValue("system").name, "system")
        self.assertEqual(TooLarge("steps").what, "steps")
        self.assertEqual(NotPossible("contradictory").why, "contradictory")
        error = TextError(12, "there is no such element")
        self.assertEqual((error.column, error.words), (12, "there is no such element"))
        for made in (BadValue("row"), TooLarge("sets"), NotPossible("missing"), TextError(1, "x"), TogetherError("x")):
            with self.assertRaises(TogetherError):
                raise made
            self.assertNotEqual(str(made), "")

    def test_parameters(self):
        for name, parameters in ERRORS.items():
            self.assertEqual(list(inspect.signature(getattr(errors, name)).parameters), parameters)

    def test_a_refused_call_raises_a_bad_value(self):
        for catching in (BadValue, TogetherError, ValueError):
            with self.assertRaises(catching) as caught:
                derived(None)
            self.assertIs(type(caught.exception), BadValue)


class Interface(unittest.TestCase):
    def test_names_and_parameters(self):
        for file, functions in INTERFACE.items():
            module = import_module(f"kepttogether.{file}")
            for name, parameters in functions.items():
                function = getattr(module, name)
                self.assertEqual(list(inspect.signature(function).parameters), parameters, name)
                self.assertEqual(function.__module__, module.__name__, name)

    def test_errors_are_defined_in_their_file(self):
        for name in ["TogetherError", *ERRORS]:
            self.assertEqual(getattr(errors, name).__module__, "kepttogether.errors")


if __name__ == "__main__":
    unittest.main()
