"""Points 82 to 89: properties of rows, what is told of them, and the evidence for it."""

import unittest
from random import Random

from kepttogether.errors import NotPossible
from kepttogether.links import are_linked, is_contradictory
from kepttogether.properties import accepts_evidence, evidence_for, has, is_property, told
from asking import (
    all_properties, drawn_properties, has_by_words, is_chain_against, is_evidence_by_words, kept_by, links_asked,
    told_by_links, told_by_rows,
)
from support import (
    EDGE_SYSTEMS, LARGE_SYSTEMS, all_systems, drawn_chain, drawn_systems, fewest_steps, pairs, rows, spoiled, subsets,
)

SYSTEM = (5, ((0, 1, 2), (2, 3, 4)))
THREE = (3, ((0, 1), (1, 2), (0, 2)))
# Systems that every row keeps, and some that only two rows keep.
ALL_ROWS = [(1, ()), (2, ((0,), (0, 1))), (4, ((), (3,), (0, 1, 2, 3))), (5, ())]
TWO_ROWS = [(3, ((0, 1), (1, 2))), (4, ((0, 2), (1, 2), (1, 3))), (5, ((0, 1), (1, 2), (2, 3), (3, 4)))]
SMALL = EDGE_SYSTEMS + ALL_ROWS + TWO_ROWS + all_systems(3, 2)[::3] + drawn_systems(30, 3, 5, 4, "properties")
POSSIBLE = [system for system in SMALL if kept_by(system)]
IMPOSSIBLE = [THREE, (4, THREE[1] + ((2, 3),)), (5, ((0, 1), (1, 2), (2, 3), (0, 3)))]
# Eight sets: a further one, which a property can ask for, is the ninth.
FULL = [
    (4, ((0, 1), (2, 3), (0, 1, 2), (), (3,), (0, 1, 2, 3), (0, 1), (2, 3))), (5, ((0, 1), (1, 2)) * 4),
    (6, ((0, 1), (2, 3), (4, 5), (0, 1, 2, 3), (), (0,), (1,), (2,))),
]
LARGE = [system for system in LARGE_SYSTEMS + FULL if not is_contradictory(system)] + [
    (7, ((0, 1, 2), (2, 3), (4, 5, 6))), (8, ((0, 1, 2, 3), (2, 3, 4, 5))), (8, ((1, 3, 5), (3, 5), (0, 7))),
]


class Words(unittest.TestCase):
    """Point 82."""

    def test_what_a_property_is(self):
        for size in range(1, 9):
            for asked in all_properties(size)[::1 if size < 6 else 7]:
                self.assertIs(is_property(asked, size), True, asked)

    def test_what_is_none(self):
        for value in [
            (), ("first",), ("first", 4), ("first", -1), ("first", 0, 1), ("first", (0,)), ["first", 0], "first",
            ("First", 0), (None, 0), ("last", 0), ("first", True), ("first", "0"), ("together",), ("together", 0),
            ("together", (1, 0)), ("together", (0, 0)), ("together", (0, 4)), ("together", [0, 1]), ("together", 0, 1),
            ("together", (0, 1), ()), ("together", (False, 1)), ("between", 0, 1), ("between", 0, 1, 0),
            ("between", 0, 0, 1), ("between", 0, 1, 1), ("between", 0, 1, 4), ("between", 0, 1, 2, 3),
            ("between", (0, 1, 2)), ("between", True, 0, 2), ("equivalent", (0, 1)), ("equivalent", (0, 1), (0, 0)),
            ("equivalent", (0, 4), (0, 1)), ("equivalent", [0, 1], (0, 1)), ("equivalent", (0, 1), (0, 1), (0, 1)),
            ("equivalent", ((0, 1), (0, 1))), ("equivalent", (0, True), (0, 1)), ("equivalent", (0, 1), (2, 3, 1)),
        ]:
            self.assertIs(is_property(value, 4), False, value)

    def test_elements_that_there_are_not(self):
        for size in range(1, 8):
            for asked in all_properties(size + 1)[::1 if size < 5 else 5]:
                inside = asked in all_properties(size)
                self.assertIs(is_property(asked, size), inside, (asked, size))

    def test_one_element(self):
        self.assertEqual(all_properties(1), [("together", ()), ("together", (0,)), ("first", 0)])
        for asked in all_properties(1):
            self.assertIs(has((1, ()), (0,), asked), True)
            self.assertEqual(told((1, ((0,), ())), asked), "always")
            self.assertEqual(evidence_for((1, ()), asked), ("always", ()))
            self.assertIs(accepts_evidence((1, ()), asked, ("always", ())), True)

    def test_rows_have_properties(self):
        for size in range(1, 6):
            for row in rows(size)[::1 if size < 5 else 7]:
                for asked in all_properties(size):
                    self.assertIs(has((size, ()), row, asked), has_by_words(row, asked), (row, asked))

    def test_long_rows_have_properties(self):
        both = {True: 0, False: 0}
        for row in rows(8)[::2017]:
            for asked in drawn_properties(8, 60, str(row)):
                found = has((8, ((0, 5),)), row, asked)
                self.assertIs(found, has_by_words(row, asked), (row, asked))
                both[found] += 1
        self.assertGreater(min(both.values()), 100)

    def test_the_row_need_not_keep_the_system(self):
        for system in [THREE, SYSTEM, (4, ((0, 3),))]:
            for row in rows(system[0])[::5]:
                for asked in all_properties(system[0])[::3]:
                    self.assertIs(has(system, row, asked), has_by_words(row, asked))


class Told(unittest.TestCase):
    """Points 83 to 86."""

    def test_against_all_rows(self):
        met = {}
        for system in POSSIBLE:
            for asked in all_properties(system[0])[::1 if system[0] < 5 else 3]:
                expected = told_by_rows(system, asked)
                self.assertEqual(told(system, asked), expected, (system, asked))
                met[(asked[0], expected)] = met.get((asked[0], expected), 0) + 1
        self.assertEqual(len(met), 12)
        self.assertGreater(min(met.values()), 4)

    def test_against_links(self):
        for system in POSSIBLE:
            for asked in all_properties(system[0]):
                self.assertEqual(told_by_links(system, asked), told_by_rows(system, asked), (system, asked))
        met = {}
        for system in LARGE:
            for asked in drawn_properties(system[0], 60, "large"):
                expected = told_by_links(system, asked)
                self.assertEqual(told(system, asked), expected, (system, asked))
                met[(asked[0], expected)] = met.get((asked[0], expected), 0) + 1
        self.assertEqual(len(met), 11)
        self.assertNotIn(("first", "always"), met)

    def test_equivalent_with_itself_and_with_its_reverse(self):
        for system in POSSIBLE + LARGE[:6]:
            for pair in pairs(system[0]):
                self.assertEqual(told(system, ("equivalent", pair, pair)), "always")
                self.assertEqual(told(system, ("equivalent", pair, pair[::-1])), "never")

    def test_equivalent_and_links(self):
        for system in POSSIBLE[::2]:
            for pair in pairs(system[0])[::3]:
                for other in pairs(system[0]):
                    word = told(system, ("equivalent", pair, other))
                    self.assertIs(word == "always", are_linked(system, pair, other))
                    self.assertIs(word == "never", are_linked(system, pair, other[::-1]))

    def test_between_is_equivalent_for_two_pairs(self):
        for system in POSSIBLE:
            for asked in [asked for asked in all_properties(system[0]) if asked[0] == "between"][::2]:
                same = ("equivalent", asked[1:3], asked[2:4])
                self.assertEqual(told(system, asked), told(system, same))
                for row in rows(system[0])[::7]:
                    self.assertIs(has(system, row, asked), has(system, row, same))
                evidence = evidence_for(system, same)
                self.assertIs(accepts_evidence(system, asked, evidence), True)

    def test_together_with_no_element_one_and_all(self):
        for system in POSSIBLE + LARGE:
            for chosen in [(), tuple(range(system[0]))] + [(x,) for x in range(system[0])]:
                self.assertEqual(told(system, ("together", chosen)), "always")
                self.assertEqual(evidence_for(system, ("together", chosen)), ("always", ()))
                self.assertIs(accepts_evidence(system, ("together", chosen), ("always", ())), True)

    def test_together_with_the_sets_of_the_system(self):
        for system in POSSIBLE + LARGE:
            for chosen in system[1]:
                self.assertEqual(told(system, ("together", chosen)), "always")

    def test_together_is_never_so_if_one_set_more_is_contradictory(self):
        met = 0
        for system in [system for system in POSSIBLE if len(system[1]) < 8]:
            for chosen in subsets(system[0]):
                word = told(system, ("together", chosen))
                self.assertIs(word == "never", is_contradictory((system[0], system[1] + (chosen,))), (system, chosen))
                met += word == "never"
        self.assertGreater(met, 50)

    def test_together_with_a_ninth_set(self):
        met = {"always": 0, "sometimes": 0, "never": 0}
        for system in FULL:
            self.assertEqual(len(system[1]), 8)
            for chosen in subsets(system[0]):
                asked = ("together", chosen)
                word = told(system, asked)
                self.assertEqual(word, told_by_rows(system, asked))
                evidence = evidence_for(system, asked)
                self.assertIs(is_evidence_by_words(system, asked, evidence), True)
                self.assertIs(accepts_evidence(system, asked, evidence), True)
                met[word] += 1
                if word == "never":
                    self.assertIn(8, [index for index, _ in evidence[1][1]])
        self.assertGreater(min(met.values()), 5)

    def test_first_with_one_element_and_with_more(self):
        self.assertEqual(told((1, ()), ("first", 0)), "always")
        for system in POSSIBLE + LARGE:
            for x in range(system[0] if system[0] > 1 else 0):
                self.assertIn(told(system, ("first", x)), ("sometimes", "never"))

    def test_systems_that_two_rows_keep(self):
        for system in TWO_ROWS + [(8, tuple((x, x + 1) for x in range(7)))]:
            if system[0] < 8:
                self.assertEqual(len(kept_by(system)), 2)
            for asked in all_properties(system[0])[::1 if system[0] < 8 else 9]:
                # One of them is the other one reversed: only what comes first is different in them.
                found = told(system, asked)
                self.assertIs(found == "sometimes", asked[0] == "first" and found != "never", (system, asked))

    def test_systems_that_all_rows_keep(self):
        for system in ALL_ROWS:
            self.assertEqual(len(kept_by(system)), len(rows(system[0])))
            for asked in all_properties(system[0]):
                if asked[0] == "between":
                    self.assertEqual(told(system, asked), "sometimes")
                if asked[0] == "together" and 1 < len(asked[1]) < system[0]:
                    self.assertEqual(told(system, asked), "sometimes")

    def test_contradictory_systems(self):
        for system in IMPOSSIBLE:
            self.assertEqual(kept_by(system), ())
            for asked in all_properties(system[0])[::5]:
                for function in (told, evidence_for):
                    with self.assertRaises(NotPossible) as caught:
                        function(system, asked)
                    self.assertEqual(caught.exception.why, "contradictory")


class Evidence(unittest.TestCase):
    """Points 87 and 88."""

    def check_evidence(self, system, asked, expected):
        evidence = evidence_for(system, asked)
        self.assertEqual(evidence[0], expected, (system, asked))
        self.assertIs(is_evidence_by_words(system, asked, evidence), True, (system, asked, evidence))
        self.assertIs(accepts_evidence(system, asked, evidence), True, (system, asked, evidence))
        return evidence

    def test_there_is_accepted_evidence_for_each_property(self):
        for system in POSSIBLE:
            for asked in all_properties(system[0])[::1 if system[0] < 5 else 4]:
                self.check_evidence(system, asked, told_by_rows(system, asked))

    def test_large_systems(self):
        for system in LARGE:
            for asked in drawn_properties(system[0], 40, "evidence"):
                self.check_evidence(system, asked, told_by_links(system, asked))

    def test_changed_evidence(self):
        accepted, met = 0, {}
        for system in [SYSTEM, (1, ()), (2, ()), (3, ((0, 1),)), (4, ((0, 1), (1, 2, 3))), TWO_ROWS[1], FULL[0]]:
            draw = Random(f"changed {system}")
            for asked in draw.sample(all_properties(system[0]), min(12, len(all_properties(system[0])))):
                evidence = evidence_for(system, asked)
                for other in spoiled(evidence):
                    found = accepts_evidence(system, asked, other)
                    self.assertIs(found, is_evidence_by_words(system, asked, other), (system, asked, other))
                    if found:
                        self.assertEqual(other[0], told_by_rows(system, asked))
                        accepted += 1
                met[evidence[0]] = met.get(evidence[0], 0) + 1
        # Some changed evidence is right still: another row, or a step by an equal set.
        self.assertGreater(accepted, 5)
        self.assertEqual(len(met), 3)

    def test_no_other_word_is_accepted(self):
        for system in POSSIBLE[::3]:
            for asked in all_properties(system[0])[::4]:
                evidence = evidence_for(system, asked)
                for other in all_properties(system[0])[::9]:
                    for shown in (evidence, evidence_for(system, other)):
                        for word in ("always", "never", "sometimes"):
                            tried = (word,) + shown[1:]
                            if accepts_evidence(system, asked, tried):
                                self.assertEqual(word, told_by_rows(system, asked), (system, asked, tried))

    def test_any_chains(self):
        # Right chains and wrong ones, whatever they were made for.
        met = {"always": 0, "never": 0}
        draw = Random("any chains")
        for system in [system for system in POSSIBLE if system[0] > 1 and system[1]] * 2:
            for number in range(40):
                chain = drawn_chain(system, draw.randint(0, 5), draw, number % 3 > 0)
                begin, end = chain[0], ([chain[0]] + [pair for _, pair in chain[1]])[-1]
                asked = [("equivalent", begin, end), ("equivalent", begin, end[::-1]), ("first", begin[0])]
                if begin[1] == end[0] and begin[0] != end[1]:
                    asked.append(("between", *begin, end[1]))
                if begin[1] == end[1] and begin[0] != end[0]:
                    asked.append(("between", *begin, end[0]))
                    asked.append(("together", tuple(sorted((begin[0], end[0])))))
                for one in asked + drawn_properties(system[0], 2, str(chain)):
                    for evidence in (("always", (chain,)), ("never", chain)):
                        found = accepts_evidence(system, one, evidence)
                        self.assertIs(found, is_evidence_by_words(system, one, evidence), (system, one, evidence))
                        if found:
                            self.assertEqual(evidence[0], told_by_rows(system, one))
                            met[evidence[0]] += 1
        self.assertGreater(min(met.values()), 100)

    def test_any_rows(self):
        met = 0
        for system in [(2, ()), (3, ()), (3, ((0, 1),)), THREE, (4, ((1, 2), (2, 3)))]:
            some = rows(system[0])[::1 if system[0] < 4 else 2]
            for asked in all_properties(system[0])[::3]:
                for row in some:
                    for other in some:
                        evidence = ("sometimes", row, other)
                        found = accepts_evidence(system, asked, evidence)
                        self.assertIs(found, is_evidence_by_words(system, asked, evidence), (system, asked, evidence))
                        met += found
        self.assertGreater(met, 100)

    def test_the_rows_of_sometimes_keep_the_system_and_stand_in_this_order(self):
        system, asked = (4, ((0, 1),)), ("first", 0)
        row, other, loose = (0, 1, 2, 3), (1, 0, 2, 3), (0, 2, 1, 3)
        self.assertIs(accepts_evidence(system, asked, ("sometimes", row, other)), True)
        self.assertIs(accepts_evidence(system, asked, ("sometimes", other, row)), False)
        self.assertIs(accepts_evidence(system, asked, ("sometimes", loose, other)), False)
        self.assertIs(accepts_evidence(system, asked, ("sometimes", row, loose[::-1])), False)
        self.assertIs(accepts_evidence(system, asked, ("sometimes", row, row)), False)

    def test_always_first_is_accepted_for_one_element_alone(self):
        self.assertIs(accepts_evidence((1, ()), ("first", 0), ("always", ())), True)
        self.assertIs(accepts_evidence((1, ()), ("first", 0), ("always", ((),))), False)
        for size in range(2, 9):
            self.assertIs(accepts_evidence((size, ()), ("first", 0), ("always", ())), False)

    def test_never_first(self):
        system = (3, ((0, 1), (1, 2)))
        chain = ((1, 0), ((1, (2, 0)), (0, (2, 1))))
        self.assertIs(accepts_evidence(system, ("first", 1), ("never", chain)), True)
        for other in [((1, 0), chain[1][:1]), ((2, 0), chain[1][1:]), ((1, 0), ()), ((1, 0), chain[1][::-1])]:
            self.assertIs(accepts_evidence(system, ("first", 1), ("never", other)), False)
        for x in (0, 2):
            self.assertIs(accepts_evidence(system, ("first", x), ("never", chain)), False)

    def test_the_set_that_is_never_together_stands_behind_the_other_sets(self):
        system, asked = (3, ((0, 1), (1, 2))), ("together", (0, 2))
        steps = ((1, (0, 2)), (0, (1, 2)), (2, (1, 0)))
        self.assertIs(accepts_evidence(system, asked, ("never", ((0, 1), steps))), True)
        self.assertIs(accepts_evidence(system, asked, ("never", ((0, 1), steps[:2] + ((3, (1, 0)),)))), False)
        self.assertIs(accepts_evidence((3, system[1] + ((),)), asked, ("never", ((0, 1), steps))), False)
        moved = ("never", ((0, 1), steps[:2] + ((3, (1, 0)),)))
        self.assertIs(accepts_evidence((3, system[1] + ((),)), asked, moved), True)
        for other in [("together", (0, 1)), ("equivalent", (0, 1), (0, 1)), ("first", 0)]:
            self.assertIs(accepts_evidence(system, other, ("never", ((0, 1), steps))), False)

    def test_the_chains_for_together_come_in_their_order(self):
        system, asked = (6, ((1, 2, 4),)), ("together", (1, 2, 4))
        word, chains = evidence_for(system, asked)
        expected = [((x, z), (y, z)) for z in (0, 3, 5) for x, y in ((1, 2), (2, 4))]
        self.assertEqual([(begin, steps[-1][1]) for begin, steps in chains], expected)
        self.assertEqual(expected, links_asked(system, asked))
        for at in range(5):
            changed = chains[:at] + (chains[at + 1], chains[at]) + chains[at + 2:]
            self.assertIs(accepts_evidence(system, asked, ("always", changed)), False)
            self.assertIs(accepts_evidence(system, asked, ("always", chains[:at] + chains[at + 1:])), False)

    def test_chains_have_at_most_100_steps(self):
        system, asked = (3, ((1, 2),)), ("equivalent", (0, 1), (0, 1))
        for many, accepted in [(0, True), (98, True), (100, True), (102, False)]:
            steps = tuple((0, (0, 1 + (place + 1) % 2)) for place in range(many))
            self.assertIs(accepts_evidence(system, asked, ("always", (((0, 1), steps),))), accepted, many)

    def test_contradictory_systems(self):
        # The judge takes chains for them as well: what they show is so in each of no rows.
        chain = ((0, 1), ((1, (0, 2)), (0, (1, 2)), (2, (1, 0))))
        self.assertIs(accepts_evidence(THREE, ("equivalent", (0, 1), (1, 0)), ("always", (chain,))), True)
        self.assertIs(accepts_evidence(THREE, ("equivalent", (0, 1), (0, 1)), ("never", chain)), True)
        self.assertIs(accepts_evidence(THREE, ("together", ()), ("never", chain)), True)
        self.assertIs(accepts_evidence(THREE, ("first", 0), ("never", chain)), True)
        self.assertIs(accepts_evidence(THREE, ("first", 0), ("sometimes", (0, 1, 2), (1, 0, 2))), False)
        for system in IMPOSSIBLE:
            for asked in all_properties(system[0])[::4]:
                for evidence in [("always", ()), ("always", (chain,)), ("never", chain)]:
                    expected = is_evidence_by_words(system, asked, evidence)
                    self.assertIs(accepts_evidence(system, asked, evidence), expected)

    def test_chains_of_evidence_need_not_be_shortest(self):
        system = (5, ((0, 1), (1, 2), (2, 3), (3, 4)))
        many = fewest_steps(system, (0, 4))[(0, 1)]
        asked = ("equivalent", (0, 4), (0, 1))
        word, (chain,) = evidence_for(system, asked)
        self.assertGreaterEqual(len(chain[1]), many)
        around = (chain[0], ((3, (0, 3)), (3, (0, 4))) + chain[1])
        self.assertIs(accepts_evidence(system, asked, (word, (around,))), True)

    def test_reference_of_chains_against(self):
        self.assertIs(is_chain_against((3, ()), ("first", 0), ((0, 1), ())), False)
        self.assertIs(is_chain_against((3, ((0, 1), (1, 2))), ("first", 1), ((1, 0), ((1, (2, 0)), (0, (2, 1))))), True)


class OneSetMore(unittest.TestCase):
    """Point 89."""

    def test_what_is_always_or_never_so_stays(self):
        met = 0
        draw = Random("one set more")
        for system in [system for system in POSSIBLE if len(system[1]) < 8]:
            chosen = draw.choice(subsets(system[0]))
            more = (system[0], system[1] + (chosen,))
            if not is_contradictory(more):
                for asked in all_properties(system[0])[::3]:
                    word = told(system, asked)
                    if word != "sometimes":
                        self.assertEqual(told(more, asked), word, (system, chosen, asked))
                        met += 1
        self.assertGreater(met, 300)


if __name__ == "__main__":
    unittest.main()
