"""Points 1 to 4, 7 and 8, and the interface: kinds of results, equal calls, errors, names and parameters."""

import inspect
import unittest
from copy import deepcopy
from importlib import import_module

from kepttogether import errors
from kepttogether.editor import Editor
from kepttogether.errors import BadValue, NotPossible, TextError, TogetherError, TooLarge
from kepttogether.sides import required
from kepttogether.systems import derived
from calling import calls
from support import EDGE_SYSTEMS, LARGE_SYSTEMS, systems_and_sides

INTERFACE = {
    "systems": {
        "is_system": ["value"], "is_row": ["value", "size"], "spans": ["system", "row"], "gaps": ["system", "row"],
        "together": ["system", "row"], "keeps": ["system", "row"], "overlap": ["first", "second"],
        "derived": ["system"], "part": ["system", "members"], "part_of_row": ["row", "members"],
        "renamed": ["system", "order"], "renamed_row": ["row", "order"],
    },
    "sides": {
        "is_sides": ["system", "value"], "required": ["system", "sides"], "contradiction": ["system", "sides"],
        "circle": ["system", "sides"], "respects": ["system", "sides", "row"], "sides_of": ["system", "row"],
        "shows_contradiction": ["system", "sides", "value"], "shows_circle": ["system", "sides", "value"],
    },
    "deciding": {"tournament_of": ["system", "sides"]},
    "links": {
        "steps_from": ["system", "pair"], "class_of": ["system", "pair"], "are_linked": ["system", "pair", "other"],
        "contradictory_pair": ["system"], "is_contradictory": ["system"], "listed_classes": ["system"],
        "count_sides": ["system"],
    },
    "chains": {
        "fault": ["system", "chain"], "end_of": ["system", "chain"],
        "accepts_chain": ["system", "pair", "other", "value"], "accepts_refutation": ["system", "value"],
        "shortest": ["system", "pair", "other"], "refutation": ["system"], "turned": ["system", "chain"],
        "mirrored": ["system", "chain"], "joined": ["system", "first", "second"], "shortened": ["system", "chain"],
    },
    "tournaments": {
        "is_tournament": ["size", "value"], "is_closed": ["size", "tournament", "chosen"],
        "smallest_closed": ["size", "tournament", "chosen"], "components": ["size", "tournament"],
        "row_of": ["size", "tournament"],
    },
    "solving": {"row_of_sides": ["system", "sides"], "solve": ["system"], "accepts": ["system", "answer"]},
    "trees": {
        "is_tree": ["value", "size"], "count_rows": ["tree"], "is_row_of": ["tree", "row"], "canonical": ["tree"],
        "fits": ["tree", "chosen"], "told_sets": ["tree"], "tree_text": ["tree"],
    },
    "reducing": {
        "reduced": ["tree", "chosen"], "tree_of": ["system"], "grounds_for": ["system"],
        "accepts_tree": ["system", "tree", "grounds"],
    },
    "listing": {
        "count_kept": ["system"], "count_beginning": ["system", "beginning"], "nth_kept": ["system", "index"],
        "index_of_kept": ["system", "value"], "kept_rows": ["system", "beginning", "index", "many"],
    },
    "properties": {
        "is_property": ["value", "size"], "has": ["system", "row", "asked"], "told": ["system", "asked"],
        "evidence_for": ["system", "asked"], "accepts_evidence": ["system", "asked", "evidence"],
    },
    "collections": {
        "is_possible": ["system", "collection"], "can_be_left_out": ["system", "collection", "index"],
        "grounds_for": ["system", "collection", "index"],
        "accepts_grounds": ["system", "collection", "index", "value"], "told_base": ["system"],
        "smallest_base": ["system"],
    },
    "conflicts": {
        "told_conflict": ["system"], "smallest_conflict": ["system"], "conflict_grounds": ["system", "collection"],
        "accepts_conflict": ["system", "collection", "value"], "smallest_removal": ["system"],
        "removal_grounds": ["system", "collection"], "accepts_removal": ["system", "collection", "value"],
    },
    "scanning": {"scan": ["text"]},
    "reading": {
        "next_tokens": ["text", "kind"], "read_system": ["text"], "read_row": ["size", "text"],
        "read_chain": ["system", "text"],
    },
    "writing": {"system_text": ["system"], "row_text": ["row"], "chain_text": ["system", "chain"]},
    "journals": {"replayed": ["names", "journal"], "are_right": ["names", "records"]},
}
METHODS = {
    "__init__": ["self", "names"], "act": ["self", "command"], "undo": ["self"], "names": ["self"], "sets": ["self"],
    "system": ["self"], "answer": ["self"], "accepts": ["self", "answer"], "journal": ["self"], "records": ["self"],
}
ERRORS = {
    "BadValue": ["name"], "TooLarge": ["what"], "NotPossible": ["why"], "TextError": ["column", "words"],
}


def shown(result):
    """The result itself, or what is told by it if it is an editor."""
    if type(result) is Editor:
        return result.names(), result.sets(), result.system(), result.answer(), result.journal(), result.records()
    return result


class Results(unittest.TestCase):
    def check_kinds(self, value):
        """Tuples of tuples, integers, strings and None; no list, and no True or False in a tuple."""
        if type(value) is tuple:
            for item in value:
                self.check_kinds(item)
        else:
            self.assertIn(type(value), (int, str, type(None)))

    def test_kinds_of_results(self):
        for function, given, kind in calls():
            result = function(*given)
            self.assertIs(type(result), kind or type(None), (function.__name__, given))
            self.assertTrue(kind is bool or type(result) is not bool)
            if kind in (tuple, list):
                self.check_kinds(tuple(result))

    def test_all_functions_are_called(self):
        called = {(function.__module__, function.__name__) for function, _, _ in calls()}
        listed = {(f"kepttogether.{file}", name) for file, functions in INTERFACE.items() for name in functions}
        self.assertEqual(called, listed)

    def test_a_returned_list_is_not_used_again(self):
        for function, given, kind in calls():
            if kind is list:
                found = function(*given)
                kept = list(found)
                found.extend([None, 0])
                found.reverse()
                self.assertEqual(function(*given), kept, (function.__name__, given))

    def test_equal_calls_return_equal_results(self):
        first = [shown(function(*given)) for function, given, _ in calls()]
        again = [shown(function(*deepcopy(given))) for function, given, _ in reversed(calls())][::-1]
        self.assertEqual(repr(first), repr(again))

    def test_no_call_modifies_its_arguments(self):
        for function, given, _ in calls():
            before = repr(given)
            function(*given)
            self.assertEqual(repr(given), before, function.__name__)

    def test_orders(self):
        for system, sides in systems_and_sides():
            found = required(system, sides)
            self.assertEqual(list(found), sorted(set(found)))
        for system in EDGE_SYSTEMS + LARGE_SYSTEMS:
            found = derived(system)
            self.assertEqual(list(found), sorted(set(found), key=lambda chosen: (len(chosen), chosen)))


class Errors(unittest.TestCase):
    def test_classes(self):
        self.assertTrue(issubclass(TogetherError, ValueError))
        below = [getattr(errors, name) for name in ERRORS]
        for one in below:
            self.assertEqual([other for other in below if issubclass(one, other)], [one])
            self.assertEqual(one.__bases__, (TogetherError,))
        self.assertEqual(TogetherError.__bases__, (ValueError,))

    def test_attributes(self):
        self.assertEqual(BadValue("system").name, "system")
        self.assertEqual(TooLarge("steps").what, "steps")
        self.assertEqual(NotPossible("contradictory").why, "contradictory")
        error = TextError(12, "there is no such element")
        self.assertEqual((error.column, error.words), (12, "there is no such element"))
        for made in (BadValue("row"), TooLarge("sets"), NotPossible("missing"), TextError(1, "x"), TogetherError("x")):
            with self.assertRaises(TogetherError):
                raise made
            self.assertNotEqual(str(made), "")

    def test_parameters(self):
        for name, parameters in ERRORS.items():
            self.assertEqual(list(inspect.signature(getattr(errors, name)).parameters), parameters)

    def test_a_refused_call_raises_a_bad_value(self):
        for catching in (BadValue, TogetherError, ValueError):
            with self.assertRaises(catching) as caught:
                derived(None)
            self.assertIs(type(caught.exception), BadValue)


class Interface(unittest.TestCase):
    def test_names_and_parameters(self):
        for file, functions in INTERFACE.items():
            module = import_module(f"kepttogether.{file}")
            for name, parameters in functions.items():
                function = getattr(module, name)
                self.assertEqual(list(inspect.signature(function).parameters), parameters, name)
                self.assertEqual(function.__module__, module.__name__, name)

    def test_the_methods_of_the_editor_are_defined_in_the_class_itself(self):
        self.assertEqual(Editor.__module__, "kepttogether.editor")
        for name, parameters in METHODS.items():
            self.assertEqual(list(inspect.signature(vars(Editor)[name]).parameters), parameters, name)

    def test_errors_are_defined_in_their_file(self):
        for name in ["TogetherError", *ERRORS]:
            self.assertEqual(getattr(errors, name).__module__, "kepttogether.errors")


if __name__ == "__main__":
    unittest.main()
