"""Points 1 to 4, 7 and 8, and the interface: kinds of results, equal calls, errors, names and parameters."""

import inspect
import unittest
from copy import deepcopy
from importlib import import_module

from kepttogether import errors
from kepttogether.errors import BadValue, NotPossible, TextError, TogetherError, TooLarge
from kepttogether.sides import (
    circle, contradiction, is_sides, required, respects, shows_circle, shows_contradiction, sides_of,
)
from kepttogether.systems import (
    derived, gaps, is_row, is_system, keeps, overlap, part, part_of_row, renamed, renamed_row, spans, together,
)
from support import EDGE_SYSTEMS, LARGE_SYSTEMS, drawn_sides, keeping_rows, systems_and_sides

INTERFACE = {
    "systems": {
        "is_system": ["value"], "is_row": ["value", "size"], "spans": ["system", "row"], "gaps": ["system", "row"],
        "together": ["system", "row"], "keeps": ["system", "row"], "overlap": ["first", "second"],
        "derived": ["system"], "part": ["system", "members"], "part_of_row": ["row", "members"],
        "renamed": ["system", "order"], "renamed_row": ["row", "order"],
    },
    "sides": {
        "is_sides": ["system", "value"], "required": ["system", "sides"], "contradiction": ["system", "sides"],
        "circle": ["system", "sides"], "respects": ["system", "sides", "row"], "sides_of": ["system", "row"],
        "shows_contradiction": ["system", "sides", "value"], "shows_circle": ["system", "sides", "value"],
    },
}
ERRORS = {
    "BadValue": ["name"], "TooLarge": ["what"], "NotPossible": ["why"], "TextError": ["column", "words"],
}
ROUND = (3, ((0,), (1,), (2,)))
ROUND_ABOUT = ((0, -1, 1), (1, 0, -1), (-1, 1, 0))
AGAINST = ((0, -1, 1), (1, 0, -1), (1, 1, 0))


def calls():
    """Calls of all functions with right arguments, each with the kind of its result."""
    found = []
    for system in EDGE_SYSTEMS + LARGE_SYSTEMS:
        row, order = tuple(range(system[0]))[::-1], tuple(range(1, system[0])) + (0,)
        found += [(function, (system, row), tuple) for function in (spans, gaps, together)]
        found += [(keeps, (system, row), bool), (is_row, (row, system[0]), bool), (is_system, (system,), bool)]
        found += [(derived, (system,), tuple), (part, (system, row[:1]), tuple), (part_of_row, (row, row[-1:]), tuple)]
        found += [(renamed, (system, order), tuple), (renamed_row, (row, order), tuple)]
        sides = drawn_sides(system, 1, "calls")[0]
        found += [(is_sides, (system, sides), bool), (required, (system, sides), tuple)]
        found += [(respects, (system, sides, row), bool), (shows_circle, (system, sides, [0, [1], 2]), bool)]
        found += [(shows_contradiction, (system, sides, [[0, 1], 0, 1]), bool), (is_system, ([system, []],), bool)]
        found += [(is_sides, (system, [list(sides)]), bool), (is_row, ([list(row)], 1), bool)]
        found += [(sides_of, (system, row), tuple) for row in (keeping_rows(system) if system[0] < 6 else [])]
    found += [(overlap, ((0, 1), (1, 2)), bool), (overlap, ((), (1, 2)), bool)]
    found += [(contradiction, (ROUND, AGAINST), tuple), (contradiction, (ROUND, ROUND_ABOUT), None)]
    found += [(circle, (ROUND, ROUND_ABOUT), tuple), (circle, (ROUND, ((0, -1, -1), (1, 0, -1), (1, 1, 0))), None)]
    return found


class Results(unittest.TestCase):
    def check_kinds(self, value, inside):
        """Tuples of tuples, integers and None, but no list, and no True or False in a tuple."""
        if type(value) is tuple:
            for item in value:
                self.check_kinds(item, True)
        elif inside:
            self.assertIn(type(value), (int, type(None)))

    def test_kinds_of_results(self):
        for function, given, kind in calls():
            result = function(*given)
            self.assertIs(type(result), kind or type(None), function.__name__)
            self.check_kinds(result, False)

    def test_equal_calls_return_equal_results(self):
        first = [function(*given) for function, given, _ in calls()]
        again = [function(*deepcopy(given)) for function, given, _ in reversed(calls())][::-1]
        self.assertEqual(repr(first), repr(again))

    def test_no_call_modifies_its_arguments(self):
        for function, given, _ in calls():
            before = repr(given)
            function(*given)
            self.assertEqual(repr(given), before, function.__name__)

    def test_orders(self):
        for system, sides in systems_and_sides():
            found = required(system, sides)
            self.assertEqual(list(found), sorted(set(found)))
        for system in EDGE_SYSTEMS + LARGE_SYSTEMS:
            found = derived(system)
            self.assertEqual(list(found), sorted(set(found), key=lambda chosen: (len(chosen), chosen)))


class Errors(unittest.TestCase):
    def test_classes(self):
        self.assertTrue(issubclass(TogetherError, ValueError))
        below = [getattr(errors, name) for name in ERRORS]
        for one in below:
            self.assertEqual([other for other in below if issubclass(one, other)], [one])
            self.assertEqual(one.__bases__, (TogetherError,))
        self.assertEqual(TogetherError.__bases__, (ValueError,))

    def test_attributes(self):
        self.assertEqual(BadValue("system").name, "system")
        self.assertEqual(TooLarge("steps").what, "steps")
        self.assertEqual(NotPossible("contradictory").why, "contradictory")
        error = TextError(12, "there is no such element")
        self.assertEqual((error.column, error.words), (12, "there is no such element"))
        for made in (BadValue("row"), TooLarge("sets"), NotPossible("missing"), TextError(1, "x"), TogetherError("x")):
            with self.assertRaises(TogetherError):
                raise made
            self.assertNotEqual(str(made), "")

    def test_parameters(self):
        for name, parameters in ERRORS.items():
            self.assertEqual(list(inspect.signature(getattr(errors, name)).parameters), parameters)

    def test_a_refused_call_raises_a_bad_value(self):
        for catching in (BadValue, TogetherError, ValueError):
            with self.assertRaises(catching) as caught:
                derived(None)
            self.assertIs(type(caught.exception), BadValue)


class Interface(unittest.TestCase):
    def test_names_and_parameters(self):
        for file, functions in INTERFACE.items():
            module = import_module(f"kepttogether.{file}")
            for name, parameters in functions.items():
                function = getattr(module, name)
                self.assertEqual(list(inspect.signature(function).parameters), parameters, name)
                self.assertEqual(function.__module__, module.__name__, name)

    def test_errors_are_defined_in_their_file(self):
        for name in ["TogetherError", *ERRORS]:
            self.assertEqual(getattr(errors, name).__module__, "kepttogether.errors")


if __name__ == "__main__":
    unittest.main()
