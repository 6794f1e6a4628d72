"""Points 7, 90, 101 and 112: what properties, collections, conflicts and scanning refuse, and in which order."""

import unittest

from kepttogether import collections
from kepttogether.collections import can_be_left_out, is_possible, smallest_base, told_base
from kepttogether.conflicts import (
    accepts_conflict, accepts_removal, conflict_grounds, removal_grounds, smallest_conflict, smallest_removal,
    told_conflict,
)
from kepttogether.errors import BadValue, NotPossible, TogetherError, TooLarge
from kepttogether.properties import accepts_evidence, evidence_for, has, told
from kepttogether.scanning import scan
from refusing import (
    A_ROW_OF_4, ANY_VALUE, NO_TUPLES, SYSTEM, THE_SYSTEM, WRONG_PAIRS_OF_4, WRONG_SYSTEMS, WRONG_TEXTS,
    RefusalChecks,
)

THREE = (3, ((0, 1), (1, 2), (0, 2)))
SEVEN = (3, ((0, 1), (1, 2), (0, 1, 2), (), (0,), (1,), (2,)))
NO_PROPERTIES = NO_TUPLES + [
    (), ("first",), ("first", 4), ("first", -1), ("first", True), ("first", None), ("first", 0, 0), ["first", 0],
    ("last", 0), (0, "first"), (None, 0), ("first", (0,)), ("together",), ("together", 0), ("together", [0, 1]),
    ("together", (1, 0)), ("together", (0, 0)), ("together", (0, 4)), ("together", (0, True)), ("together", (0, 1), ()),
    ("between", 0, 1), ("between", 0, 1, 1), ("between", 0, 1, 4), ("between", 0, 1, 2, 3), ("between", (0, 1, 2)),
    ("between", False, 1, 2), ("equivalent", (0, 1)), ("equivalent", (0, 1), (1, 2), (2, 3)), "equivalent",
    ("equivalent", ((0, 1), (1, 2))), (("equivalent",), (0, 1), (1, 2)),
] + [("equivalent", pair, (0, 1)) for pair in WRONG_PAIRS_OF_4] + [
    ("equivalent", (0, 1), pair) for pair in WRONG_PAIRS_OF_4
]
# The system has two sets.
WRONG_COLLECTIONS = NO_TUPLES + [
    (2,), (0, 2), (-1,), (-1, 0), (0, 0), (1, 0), (0, 1, 1), (0, 1, 2), (False,), (True,), (0, True), (False, 1),
    ("0",), (None,), ((0,),), [0], [0, 1], (0, 10 ** 30),
]
WRONG_INDEXES = [None, True, False, 0, 2, 8, -1, -2, 10 ** 30, "", "1", (), (1,), [], [1]]
ASKED = ("asked", ("together", (0, 2)), NO_PROPERTIES)
COLLECTION = ("collection", (1,), WRONG_COLLECTIONS)
INDEX = ("index", 1, WRONG_INDEXES)

FUNCTIONS = [
    (has, THE_SYSTEM, A_ROW_OF_4, ASKED),
    (told, THE_SYSTEM, ASKED),
    (evidence_for, THE_SYSTEM, ASKED),
    (accepts_evidence, THE_SYSTEM, ASKED, ("evidence", None, [])),
    (is_possible, THE_SYSTEM, COLLECTION),
    (can_be_left_out, THE_SYSTEM, COLLECTION, INDEX),
    (collections.grounds_for, THE_SYSTEM, COLLECTION, INDEX),
    (collections.accepts_grounds, THE_SYSTEM, COLLECTION, INDEX, ANY_VALUE),
    (told_base, THE_SYSTEM),
    (smallest_base, THE_SYSTEM),
    (told_conflict, THE_SYSTEM),
    (smallest_conflict, THE_SYSTEM),
    (conflict_grounds, THE_SYSTEM, COLLECTION),
    (accepts_conflict, THE_SYSTEM, COLLECTION, ANY_VALUE),
    (smallest_removal, THE_SYSTEM),
    (removal_grounds, THE_SYSTEM, COLLECTION),
    (accepts_removal, THE_SYSTEM, COLLECTION, ANY_VALUE),
    (scan, ("text", "4: 0 1", WRONG_TEXTS)),
]


class Refusals(RefusalChecks, unittest.TestCase):
    functions = FUNCTIONS

    def check_not_possible(self, function, *given):
        with self.assertRaises(NotPossible, msg=(function.__name__, given)) as caught:
            function(*given)
        self.assertEqual(caught.exception.why, "contradictory")
        self.assertIsInstance(caught.exception, TogetherError)
        self.assertNotIsInstance(caught.exception, (BadValue, TooLarge))

    def check_too_large(self, function, *given):
        with self.assertRaises(TooLarge, msg=(function.__name__, given)) as caught:
            function(*given)
        self.assertEqual(caught.exception.what, "sets")
        self.assertIsInstance(caught.exception, TogetherError)
        self.assertNotIsInstance(caught.exception, (BadValue, NotPossible))

    def test_an_index_has_to_be_in_the_collection(self):
        for function in (can_be_left_out, collections.grounds_for):
            self.check_refused(function, [SYSTEM, (0,), 1], "index")
            self.check_refused(function, [SYSTEM, (), 0], "index")
            self.check_refused(function, [(4, ()), (), 0], "index")
            function(SYSTEM, (0, 1), 0)
            for index in (True, False):
                # They are equal to indexes of the collection, and no integers.
                self.check_refused(function, [SYSTEM, (0, 1), index], "index")
        for index in (0, True, False, -1):
            self.check_refused(collections.accepts_grounds, [SYSTEM, (1,), index, ()], "index")

    def test_collections_of_eight_sets_and_of_none(self):
        system = (8, tuple((x,) for x in range(8)))
        every = tuple(range(8))
        for function in (is_possible, conflict_grounds, removal_grounds):
            function(system, every)
            function((8, ()), ())
            self.check_refused(function, [system, every + (8,)], "collection")
            self.check_refused(function, [system, (8,)], "collection")
            self.check_refused(function, [(8, ()), (0,)], "collection")
        for function in (can_be_left_out, collections.grounds_for):
            function(system, every, 7)
            self.check_refused(function, [system, every, 8], "index")

    def test_a_contradictory_system_has_no_properties_that_are_told(self):
        for asked in [("first", 0), ("together", (0, 1)), ("equivalent", (0, 1), (0, 1)), ("between", 0, 1, 2)]:
            self.check_not_possible(told, THREE, asked)
            self.check_not_possible(evidence_for, THREE, asked)
            self.assertIn(has(THREE, (0, 1, 2), asked), (True, False))
            self.assertIs(accepts_evidence(THREE, asked, None), False)

    def test_wrong_arguments_come_before_what_is_not_possible(self):
        for asked in NO_PROPERTIES + [("first", 3), ("together", (0, 3))]:
            self.check_refused(told, [THREE, asked], "asked")
            self.check_refused(evidence_for, [THREE, asked], "asked")
        for function in (can_be_left_out, collections.grounds_for):
            for collection in [(3,), (0, 1, 3), (0, 1, True), [0, 1, 2], None]:
                self.check_refused(function, [THREE, collection, 0], "collection")
            for index in (3, -1, True, None):
                self.check_refused(function, [THREE, (0, 1, 2), index], "index")

    def test_a_collection_that_is_not_possible(self):
        for function in (can_be_left_out, collections.grounds_for):
            for index in range(3):
                self.check_not_possible(function, THREE, (0, 1, 2), index)
            for collection in [(0, 1), (1, 2), (0, 2), (2,)]:
                function(THREE, collection, collection[0])
        for index in range(3):
            self.assertIs(collections.accepts_grounds(THREE, (0, 1, 2), index, ()), False)

    def test_a_contradictory_system_has_no_bases(self):
        for system in (THREE, (3, THREE[1] * 2), (3, THREE[1] * 2 + ((),)), (3, THREE[1] * 2 + ((), ()))):
            self.check_not_possible(told_base, system)
            # Too many sets would come behind this.
            self.check_not_possible(smallest_base, system)

    def test_more_than_six_sets(self):
        for system in (SEVEN, (3, SEVEN[1] + ((),)), (8, ((0, 1),) * 7), (1, ((),) * 8)):
            for function in (smallest_base, smallest_conflict, smallest_removal):
                self.check_too_large(function, system)
                function((system[0], system[1][:6]))
            told_base(system)
            told_conflict(system)
        for many in (6, 7, 8):
            system = (3, (THREE[1] * 3)[:many])
            for function in (smallest_conflict, smallest_removal):
                if many > 6:
                    self.check_too_large(function, system)
                else:
                    self.assertNotIn(function(system), (None, ()))

    def test_a_wrong_system_comes_before_too_many_sets(self):
        for system in WRONG_SYSTEMS + [(9, ((),) * 8), (4, ((),) * 9), (4, ((4,),) * 7), (True, ((),) * 7)]:
            for function in (smallest_base, smallest_conflict, smallest_removal):
                self.check_refused(function, [system], "system")

    def test_nothing_else_is_refused(self):
        # What is asked of other functions only, or of none.
        for asked in [("together", ()), ("together", (0, 1, 2, 3)), ("first", 3), ("equivalent", (0, 1), (0, 1))]:
            self.assertIn(told(SYSTEM, asked), ("always", "sometimes", "never"))
        self.assertIs(is_possible(SYSTEM, ()), True)
        self.assertIsNone(conflict_grounds(SYSTEM, (0, 1)))
        self.assertIsNone(removal_grounds(SYSTEM, (0, 1)))


if __name__ == "__main__":
    unittest.main()
