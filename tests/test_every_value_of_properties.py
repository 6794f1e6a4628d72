"""Point 3, and what takes every value among properties, collections and conflicts: True or False, and no error."""

import unittest

from kepttogether.collections import accepts_grounds, grounds_for
from kepttogether.conflicts import accepts_conflict, accepts_removal, conflict_grounds, removal_grounds
from kepttogether.properties import accepts_evidence, evidence_for, is_property
from asking import all_properties, is_evidence_by_words, is_property_by_words
from choosing import is_conflict_grounds_by_words, is_grounds_by_words, is_removal_grounds_by_words
from judging import JudgeChecks
from support import nested, values_of_all_kinds

SYSTEM = (4, ((0, 1), (1, 2), (0, 1, 2)))
THREE = (3, ((0, 1), (1, 2), (0, 2)))
ROUND = ((0, 1), ((1, (0, 2)), (0, (1, 2)), (2, (1, 0))))
WORDS = ("always", "never", "sometimes")
ASKED = [
    ("equivalent", (0, 1), (0, 2)), ("equivalent", (0, 1), (1, 0)), ("together", (0, 1)), ("together", (0, 2)),
    ("together", ()), ("together", (0, 3)), ("between", 0, 1, 2), ("between", 1, 0, 3), ("first", 1), ("first", 0),
]


class EveryValue(JudgeChecks, unittest.TestCase):
    def test_is_property(self):
        for size in (1, 2, 3, 4, 8):
            good = all_properties(size)[::1 if size < 3 else 7 if size < 8 else 400]
            self.check_all(
                lambda value: is_property(value, size), lambda value: is_property_by_words(value, size), good,
            )

    def test_is_property_with_every_value_behind_the_word(self):
        for word in ("equivalent", "together", "between", "first"):
            for value in values_of_all_kinds():
                for tried in [(word, value), (word, value, value), (word, (0, 1), value), (word, value, (0, 1))]:
                    self.check(
                        lambda value: is_property(value, 3), lambda value: is_property_by_words(value, 3), tried,
                    )
                self.check(
                    lambda value: is_property(value, 3), lambda value: is_property_by_words(value, 3),
                    (word, 0, 1, value),
                )

    def test_accepts_evidence(self):
        for asked in ASKED:
            self.check_all(
                lambda value: accepts_evidence(SYSTEM, asked, value),
                lambda value: is_evidence_by_words(SYSTEM, asked, value),
                [evidence_for(SYSTEM, asked)],
            )

    def test_accepts_evidence_with_every_value_behind_the_word(self):
        for system in (SYSTEM, (1, ()), THREE):
            for asked in all_properties(system[0])[::9] + all_properties(system[0])[-1:]:
                for value in values_of_all_kinds()[::5]:
                    for word in WORDS:
                        for tried in [(word, value), (word, value, value), (word, (value,)), (word, value, (0, 1, 2))]:
                            self.check(
                                lambda value: accepts_evidence(system, asked, value),
                                lambda value: is_evidence_by_words(system, asked, value), tried,
                            )

    def test_accepts_grounds(self):
        for system, collection, index in [
            (SYSTEM, (0, 1, 2), 2), (SYSTEM, (0, 1, 2), 0), ((1, ((0,),)), (0,), 0), (THREE, (0, 1, 2), 1),
        ]:
            good = [grounds_for(SYSTEM, collection, index)] if (system, index) == (SYSTEM, 2) else []
            self.check_all(
                lambda value: accepts_grounds(system, collection, index, value),
                lambda value: is_grounds_by_words(system, collection, index, value), good,
            )

    def test_accepts_conflict(self):
        for system, collection in [(THREE, (0, 1, 2)), (THREE, (0, 1)), (SYSTEM, ()), ((1, ()), ())]:
            good = [conflict_grounds(system, collection)] if collection == (0, 1, 2) else []
            self.check_all(
                lambda value: accepts_conflict(system, collection, value),
                lambda value: is_conflict_grounds_by_words(system, collection, value), good,
            )
            for value in values_of_all_kinds():
                for tried in [(ROUND, value), (value, ((0, 1, 2),) * 3), (ROUND, (value,) * 3)]:
                    self.check(
                        lambda value: accepts_conflict(system, collection, value),
                        lambda value: is_conflict_grounds_by_words(system, collection, value), tried,
                    )

    def test_accepts_removal(self):
        for system, collection in [(THREE, (1,)), (THREE, (0, 1)), (SYSTEM, ()), ((1, ()), ()), (THREE, ())]:
            good = [removal_grounds(system, collection)] if (system, collection) != (THREE, ()) else []
            self.check_all(
                lambda value: accepts_removal(system, collection, value),
                lambda value: is_removal_grounds_by_words(system, collection, value),
                [one for one in good if one is not None],
            )
            for value in values_of_all_kinds():
                for tried in [((1, 0, 2), value), (value, (ROUND,)), ((1, 0, 2), (value,)), (value, ())]:
                    self.check(
                        lambda value: accepts_removal(system, collection, value),
                        lambda value: is_removal_grounds_by_words(system, collection, value), tried,
                    )

    def test_values_that_are_nested_too_deeply_to_be_looked_through(self):
        deep = nested(20000)
        values = [deep, [deep], (deep, deep), (deep, ()), ((0, 1, 2), deep), (ROUND, deep), (ROUND, (deep,) * 3)]
        values += [((0, 1, 2), (deep,)), (deep, deep, deep)] + [(word, deep) for word in WORDS]
        values += [("always", (deep,)), ("sometimes", deep, deep), ("sometimes", (0, 1, 2), deep), ((deep, ()),)]
        values += [("never", (deep, ())), ("never", ((0, 1), deep)), ("never", ((0, 1), (deep,)))]
        for value in values + [(word, deep) for word in ("equivalent", "together", "between", "first")]:
            self.assertIs(is_property(value, 3), False)
            for asked in [("equivalent", (0, 1), (0, 2)), ("together", (0, 1)), ("between", 0, 1, 2), ("first", 0)]:
                self.assertIs(accepts_evidence(THREE, asked, value), False)
            self.assertIs(accepts_grounds(THREE, (0, 1, 2), 0, value), False)
            self.assertIs(accepts_conflict(THREE, (0, 1, 2), value), False)
            self.assertIs(accepts_removal(THREE, (1,), value), False)

    def test_true_and_false_are_not_integers(self):
        self.assertIs(is_property(("first", False), 3), False)
        self.assertIs(is_property(("together", (False, True)), 3), False)
        self.assertIs(is_property(("between", False, True, 2), 3), False)
        self.assertIs(is_property(("equivalent", (False, 1), (0, 1)), 3), False)
        rows = ("sometimes", (0, 1, 2), (1, 0, 2))
        self.assertIs(accepts_evidence((3, ()), ("first", 0), rows), True)
        self.assertIs(accepts_evidence((3, ()), ("first", 0), ("sometimes", (False, True, 2), (1, 0, 2))), False)
        self.assertIs(accepts_evidence((3, ()), ("first", 0), rows[:2] + ((True, 0, 2),)), False)
        wrong = ((0, 1), ((True, (0, 2)),) + ROUND[1][1:])
        kept = ((0, 2, 1), (1, 0, 2), (0, 1, 2))
        self.assertIs(accepts_conflict(THREE, (0, 1, 2), (ROUND, kept)), True)
        self.assertIs(accepts_conflict(THREE, (0, 1, 2), (wrong, kept)), False)
        self.assertIs(accepts_removal(THREE, (1,), ((1, 0, 2), (ROUND,))), True)
        self.assertIs(accepts_removal(THREE, (1,), ((1, 0, 2), (wrong,))), False)
        self.assertIs(accepts_grounds((3, ((0, 1), (0, 1))), (0, 1), 0, (((2, 0), ((1, (2, 1)),)),)), True)
        self.assertIs(accepts_grounds((3, ((0, 1), (0, 1))), (0, 1), 0, (((2, 0), ((True, (2, 1)),)),)), False)

    def test_long_values(self):
        many = tuple((0, (2, place % 2)) for place in range(10 ** 5))
        for value in [many, (ROUND, many), ((0, 1, 2), many), ("always", many), ("never", ((2, 0), many))]:
            self.assertIs(accepts_evidence(THREE, ("equivalent", (2, 0), (2, 1)), value), False)
            self.assertIs(accepts_grounds(THREE, (0, 1, 2), 0, value), False)
            self.assertIs(accepts_conflict(THREE, (0, 1, 2), value), False)
            self.assertIs(accepts_removal(THREE, (1,), value), False)
            self.assertIs(is_property(value, 3), False)


class TheWordsAsCode(unittest.TestCase):
    """The references of this file are worth something only if they tell right from wrong themselves."""

    def test_references(self):
        self.assertIs(is_property_by_words(("together", ()), 1), True)
        self.assertIs(is_property_by_words(("together", (1, 0)), 2), False)
        self.assertIs(is_evidence_by_words(THREE, ("first", 0), ("never", ROUND)), True)
        self.assertIs(is_evidence_by_words(SYSTEM, ("first", 0), ("never", ROUND)), False)
        kept = ((0, 2, 1), (1, 0, 2), (0, 1, 2))
        self.assertIs(is_conflict_grounds_by_words(THREE, (0, 1, 2), (ROUND, kept)), True)
        self.assertIs(is_conflict_grounds_by_words(THREE, (0, 1, 2), (ROUND, kept[::-1])), False)
        self.assertIs(is_removal_grounds_by_words(THREE, (1,), ((1, 0, 2), (ROUND,))), True)
        self.assertIs(is_removal_grounds_by_words(THREE, (1,), ((0, 1, 2), (ROUND,))), False)
        self.assertIs(is_grounds_by_words((3, ((0, 1),)), (0,), 0, (((2, 0), ((0, (2, 1)),)),)), False)


if __name__ == "__main__":
    unittest.main()
