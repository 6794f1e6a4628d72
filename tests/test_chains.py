"""Points 41 to 48: chains, their faults, the judges, shortest chains, and what is made of chains."""

import unittest
from random import Random

from kepttogether.chains import (
    accepts_chain, accepts_refutation, end_of, fault, joined, mirrored, refutation, shortened, shortest, turned,
)
from kepttogether.errors import BadValue, TogetherError, TooLarge
from kepttogether.links import are_linked, is_contradictory
from kepttogether.systems import renamed
from support import (
    EDGE_SYSTEMS, LARGE_SYSTEMS, SMALL_SYSTEMS, all_systems, drawn_chain, drawn_systems, ends, fewest_steps, has,
    is_right_chain, keeping_rows, leads, linked_pairs, pairs, rows, subsets,
)

THREE = (3, ((0, 1), (1, 2), (0, 2)))
ROUND = ((0, 1), ((1, (0, 2)), (0, (1, 2)), (2, (1, 0))))
TO_AND_FRO = (3, ((1, 2),))
FEW_SYSTEMS = [system for system in EDGE_SYSTEMS if system[0] > 1] + all_systems(3, 2)[::4] + drawn_systems(
    30, 3, 5, 5, "few chains",
)
SOME_SYSTEMS = [
    system for system in SMALL_SYSTEMS + drawn_systems(60, 3, 5, 6, "chains") + LARGE_SYSTEMS if system[0] > 1
]


def to_and_fro(many):
    """A right chain of so many steps in a system whose first set has 1 and 2, but not 0."""
    return ((0, 1), tuple((0, (0, 1 + (place + 1) % 2)) for place in range(many)))


def drawn_chains(system, count, seed):
    """Chains of 0 to 9 steps: half of them right."""
    draw = Random(f"{seed} {system}")
    possible = bool(system[1])
    return [
        drawn_chain(system, draw.randint(0, 9) if possible else 0, draw, number % 2 == 0) for number in range(count)
    ]


def all_faults(chosen, before, after):
    """Point 42: all the faults of a step that apply, in their order."""
    stay = [place for place in (0, 1) if before[place] == after[place]]
    found = []
    if before == after:
        found.append("alike")
    if not stay:
        found.append("both")
    if any(before[place] in chosen for place in stay):
        found.append("inside")
    if len(stay) == 1 and (before[1 - stay[0]] not in chosen or after[1 - stay[0]] not in chosen):
        found.append("outside")
    return found


def fault_by_words(system, chain):
    at = [chain[0]] + [pair for _, pair in chain[1]]
    for place, (index, after) in enumerate(chain[1]):
        found = all_faults(system[1][index], at[place], after)
        if found:
            return place, found[0]
    return None


def shortened_by_words(chain):
    """Point 46: from each pair that is kept, go on behind the last place at which the chain is there."""
    begin, steps = chain
    at = [begin] + [pair for _, pair in steps]
    here, kept = begin, []
    while here != at[-1]:
        last = max(place for place in range(len(at)) if at[place] == here)
        kept.append(steps[last])
        here = at[last + 1]
    return begin, tuple(kept)


class Faults(unittest.TestCase):
    """Points 41 and 42."""

    def test_all_steps(self):
        met = {word: 0 for word in (None, "alike", "both", "inside", "outside", "inside and outside")}
        for system in [(3, (chosen,)) for chosen in subsets(3)] + [(4, (chosen,)) for chosen in subsets(4)]:
            chosen = system[1][0]
            for before in pairs(system[0]):
                for after in pairs(system[0]):
                    words = all_faults(chosen, before, after)
                    self.assertIs(words == [], leads(chosen, before, after))
                    expected = (0, words[0]) if words else None
                    self.assertEqual(fault(system, (before, ((0, after),))), expected, (system, before, after))
                    met[words[0] if words else None] += 1
                    met["inside and outside"] += words == ["inside", "outside"]
        self.assertGreater(min(met.values()), 20)

    def test_several_faults_at_one_step(self):
        system = (4, ((0, 1), (0, 1, 2, 3), ()))
        self.assertEqual(fault(system, ((0, 1), ((0, (0, 1)),))), (0, "alike"))
        self.assertEqual(fault(system, ((0, 1), ((2, (0, 1)),))), (0, "alike"))
        self.assertEqual(fault(system, ((0, 1), ((0, (2, 3)),))), (0, "both"))
        self.assertEqual(fault(system, ((0, 1), ((0, (1, 0)),))), (0, "both"))
        self.assertEqual(fault(system, ((0, 1), ((2, (1, 0)),))), (0, "both"))
        self.assertEqual(fault(system, ((0, 1), ((0, (0, 2)),))), (0, "inside"))
        self.assertEqual(fault(system, ((0, 1), ((1, (2, 1)),))), (0, "inside"))
        self.assertEqual(fault(system, ((2, 0), ((0, (2, 3)),))), (0, "outside"))
        self.assertEqual(fault(system, ((0, 3), ((0, (2, 3)),))), (0, "outside"))
        self.assertEqual(fault(system, ((0, 1), ((2, (0, 2)),))), (0, "outside"))
        self.assertIsNone(fault(system, ((0, 3), ((0, (1, 3)),))))

    def test_the_first_step_that_is_not_right_is_told(self):
        self.assertEqual(fault(THREE, ((0, 1), ((1, (0, 2)), (1, (1, 2))))), (1, "inside"))
        self.assertEqual(fault(THREE, ((0, 1), ((1, (0, 2)), (0, (0, 2)), (0, (1, 0)), (0, (1, 2))))), (1, "alike"))
        self.assertEqual(fault(THREE, ((0, 1), ((1, (1, 0)), (1, (1, 0))))), (0, "both"))
        for many in (1, 50, 100):
            at = to_and_fro(many)
            self.assertIsNone(fault(TO_AND_FRO, at))
            self.assertEqual(fault(TO_AND_FRO, (at[0], at[1][:-1] + ((0, (1, 0)),)))[0], many - 1)

    def test_drawn_chains(self):
        met = {}
        for system in SOME_SYSTEMS:
            for chain in drawn_chains(system, 8, "faults"):
                expected = fault_by_words(system, chain)
                self.assertEqual(fault(system, chain), expected, (system, chain))
                self.assertEqual(fault(system, chain) is None, is_right_chain(system, chain))
                word = expected and expected[1]
                met[word] = met.get(word, 0) + 1
        self.assertEqual(set(met), {None, "alike", "both", "inside", "outside"})
        self.assertGreater(min(met.values()), 10)

    def test_chains_of_no_step_and_of_100(self):
        self.assertIsNone(fault((2, ()), ((1, 0), ())))
        self.assertIsNone(fault(TO_AND_FRO, to_and_fro(100)))
        with self.assertRaises(BadValue):
            fault(TO_AND_FRO, to_and_fro(101))

    def test_ends(self):
        for system in SOME_SYSTEMS:
            for chain in drawn_chains(system, 4, "ends"):
                self.assertEqual(end_of(system, chain), ends(chain)[1])
        self.assertEqual(end_of((2, ()), ((1, 0), ())), (1, 0))
        self.assertEqual(end_of(THREE, ROUND), (1, 0))
        self.assertEqual(end_of(THREE, ((0, 1), ((0, (0, 1)), (1, (2, 0))))), (2, 0))


class Judges(unittest.TestCase):
    """Point 43."""

    def test_chains(self):
        both = {True: 0, False: 0}
        for system in FEW_SYSTEMS:
            for chain in drawn_chains(system, 12, "judged"):
                begin, end = ends(chain)
                right = is_right_chain(system, chain)
                self.assertIs(accepts_chain(system, begin, end, chain), right, (system, chain))
                both[right] += 1
                for pair in pairs(system[0]):
                    self.assertIs(accepts_chain(system, pair, end, chain), right and pair == begin)
                    self.assertIs(accepts_chain(system, begin, pair, chain), right and pair == end)
        self.assertGreater(min(both.values()), 100)

    def test_a_keeping_row_has_both_ends_of_a_right_chain_or_none(self):
        met = 0
        for system in FEW_SYSTEMS:
            kept = keeping_rows(system)
            for chain in drawn_chains(system, 12, "agreeing"):
                begin, end = ends(chain)
                if accepts_chain(system, begin, end, chain):
                    self.assertTrue(all(has(row, begin) == has(row, end) for row in kept), (system, chain))
                    met += begin != end
        self.assertGreater(met, 50)

    def test_refutations(self):
        accepted = 0
        draw = Random("refutations")
        systems = [THREE, (4, THREE[1] + ((2, 3),)), (4, ((0, 1), (1, 2), (2, 3), (0, 3)))]
        for system in systems + drawn_systems(30, 3, 5, 6, "refutations") + [TO_AND_FRO]:
            for _ in range(100 if system in systems else 20):
                chain = drawn_chain(system, draw.randint(0, 12), draw, True) if system[1] else ((0, 1), ())
                begin, end = ends(chain)
                shows = is_right_chain(system, chain) and end == begin[::-1]
                self.assertIs(accepts_refutation(system, chain), shows, (system, chain))
                accepted += shows
                if shows:
                    self.assertEqual(keeping_rows(system), [], system)
        self.assertGreater(accepted, 10)

    def test_a_refutation_has_to_be_right_and_to_end_at_the_reverse(self):
        self.assertIs(accepts_refutation(THREE, ROUND), True)
        for at in range(3):
            self.assertIs(accepts_refutation(THREE, (ROUND[0], ROUND[1][:at])), False)
            for index in range(3):
                steps = ROUND[1][:at] + ((index, ROUND[1][at][1]),) + ROUND[1][at + 1:]
                self.assertIs(accepts_refutation(THREE, (ROUND[0], steps)), steps == ROUND[1])
        self.assertIs(accepts_refutation(THREE, ((0, 1), ((0, (1, 0)),))), False)
        self.assertIs(accepts_refutation(THREE, (ROUND[0], ROUND[1] + ROUND[1][-1:])), False)
        self.assertIs(accepts_refutation((3, THREE[1][:2]), ROUND), False)
        self.assertIs(accepts_refutation((3, THREE[1][::-1]), ROUND), False)

    def test_long_chains(self):
        back = to_and_fro(100)
        self.assertIs(accepts_chain(TO_AND_FRO, (0, 1), (0, 1), back), True)
        self.assertIs(accepts_chain(TO_AND_FRO, (0, 1), (0, 2), to_and_fro(99)), True)
        self.assertIs(accepts_chain(TO_AND_FRO, (0, 1), (0, 2), to_and_fro(101)), False)
        self.assertIs(accepts_chain(TO_AND_FRO, (0, 1), (0, 1), (back[0], list(back[1]))), False)
        # The set 1 2 has the index 1 in the system that no row keeps.
        for many, accepted in [(96, True), (98, False)]:
            steps = tuple((1, pair) for _, pair in to_and_fro(many)[1]) + ROUND[1]
            self.assertIs(accepts_refutation(THREE, ((0, 1), steps)), accepted)


class Shortest(unittest.TestCase):
    """Point 44."""

    def test_shortest_chains(self):
        met = 0
        for system in FEW_SYSTEMS:
            for pair in pairs(system[0])[::3]:
                many = fewest_steps(system, pair)
                for other in pairs(system[0]):
                    found = shortest(system, pair, other)
                    if other not in many:
                        self.assertIsNone(found)
                        continue
                    self.assertIs(is_right_chain(system, found), True)
                    self.assertEqual(ends(found), (pair, other))
                    self.assertEqual(len(found[1]), many[other], (system, pair, other))
                    self.assertIs(accepts_chain(system, pair, other, found), True)
                    met += many[other] > 2
        self.assertGreater(met, 30)

    def test_a_chain_leads_exactly_to_the_linked_pairs(self):
        for system in FEW_SYSTEMS + LARGE_SYSTEMS[:3]:
            linked = linked_pairs(system)
            for pair in pairs(system[0])[::5]:
                for other in pairs(system[0])[::2]:
                    there = shortest(system, pair, other) is not None
                    self.assertIs(there, other in linked[pair])
                    self.assertIs(there, are_linked(system, pair, other))

    def test_fewer_steps_than_pairs(self):
        for system in LARGE_SYSTEMS:
            for other in pairs(system[0]):
                found = shortest(system, (0, 1), other)
                if found is not None:
                    self.assertLess(len(found[1]), len(pairs(system[0])))
                    self.assertIs(is_right_chain(system, found), True)

    def test_from_a_pair_to_itself(self):
        for system in [(2, ()), THREE, (8, ((),) * 8)]:
            for pair in pairs(system[0]):
                self.assertEqual(shortest(system, pair, pair), (pair, ()))

    def test_pairs_that_are_not_linked(self):
        self.assertIsNone(shortest((2, ()), (0, 1), (1, 0)))
        self.assertIsNone(shortest((4, ((2, 3),)), (0, 2), (3, 0)))

    def test_shortest_refutations(self):
        both = {True: 0, False: 0}
        systems = all_systems(3, 3)[::9] + drawn_systems(40, 3, 5, 6, "shortest refutations")
        for system in [(1, ()), (1, ((0,),)), THREE, *systems]:
            many = [fewest_steps(system, pair).get(pair[::-1]) for pair in pairs(system[0])]
            many = [number for number in many if number is not None]
            found = refutation(system)
            self.assertIs(found is None, many == [])
            self.assertIs(found is None, keeping_rows(system) != [])
            both[found is None] += 1
            if found is not None:
                self.assertEqual(len(found[1]), min(many), system)
                self.assertIs(accepts_refutation(system, found), True)
                self.assertIs(is_right_chain(system, found), True)
                self.assertEqual(ends(found)[1], found[0][::-1])
        self.assertGreater(min(both.values()), 5)

    def test_a_shortest_refutation_need_not_begin_at_the_first_pair(self):
        # The four sets around 0, 1, 2, 3 need more steps than the three around 4, 5, 6.
        circle = ((0, 1), (1, 2), (2, 3), (0, 3))
        self.assertGreater(len(refutation((7, circle))[1]), 3)
        self.assertEqual(len(refutation((7, circle + ((4, 5), (5, 6), (4, 6))))[1]), 3)

    def test_large_systems(self):
        for system in LARGE_SYSTEMS:
            found = refutation(system)
            self.assertIs(found is not None, is_contradictory(system))
            if found is not None:
                self.assertIs(is_right_chain(system, found), True)
                self.assertEqual(ends(found)[1], found[0][::-1])


class Made(unittest.TestCase):
    """Point 45."""

    def test_turned(self):
        for system in FEW_SYSTEMS:
            for chain in drawn_chains(system, 10, "turned"):
                found = turned(system, chain)
                at = [chain[0]] + [pair for _, pair in chain[1]]
                steps = [(index, at[place]) for place, (index, _) in enumerate(chain[1])]
                self.assertEqual(found, (at[-1], tuple(steps[::-1])))
                self.assertEqual(turned(system, found), chain)
                self.assertIs(is_right_chain(system, found), is_right_chain(system, chain))

    def test_mirrored(self):
        for system in FEW_SYSTEMS:
            for chain in drawn_chains(system, 10, "mirrored"):
                found = mirrored(system, chain)
                steps = tuple((index, pair[::-1]) for index, pair in chain[1])
                self.assertEqual(found, (chain[0][::-1], steps))
                self.assertIs(is_right_chain(system, found), is_right_chain(system, chain))

    def test_joined(self):
        draw, met = Random("joined"), 0
        for system in FEW_SYSTEMS:
            for first in drawn_chains(system, 10, "joined"):
                second = (ends(first)[1], drawn_chain(system, 5 if system[1] else 0, draw, False)[1])
                found = joined(system, first, second)
                self.assertEqual(found, (first[0], first[1] + second[1]))
                back = joined(system, first, turned(system, first))
                self.assertEqual(ends(back), (first[0], first[0]))
                self.assertIs(is_right_chain(system, back), is_right_chain(system, first))
                met += is_right_chain(system, back) and len(back[1]) > 2
        self.assertGreater(met, 30)

    def test_chains_of_no_step(self):
        none = ((1, 0), ())
        self.assertEqual(turned((2, ()), none), none)
        self.assertEqual(mirrored((2, ()), none), ((0, 1), ()))
        self.assertEqual(joined((2, ()), none, none), none)
        self.assertEqual(shortened((2, ()), none), none)

    def test_joined_chains_of_100_steps_and_more(self):
        for many in (0, 1, 40, 99, 100):
            first, more = to_and_fro(many), to_and_fro(100)[1]
            second = (ends(first)[1], (more if many % 2 == 0 else more[1:] + more[:1])[:100 - many])
            self.assertEqual(joined(TO_AND_FRO, first, second), to_and_fro(100))
            for longer in range(101 - many, min(101, 110 - many)):
                second = (ends(first)[1], (more if many % 2 == 0 else more[1:] + more[:1])[:longer])
                with self.assertRaises(TooLarge) as caught:
                    joined(TO_AND_FRO, first, second)
                self.assertEqual(caught.exception.what, "steps")
                self.assertIsInstance(caught.exception, TogetherError)
                self.assertNotIsInstance(caught.exception, BadValue)

    def test_what_is_not_a_chain_comes_before_what_is_too_large(self):
        hundred = to_and_fro(100)
        for first, second, name in [
            (to_and_fro(101), hundred, "first"), (hundred, to_and_fro(101), "second"),
            (hundred, ((0, 2), hundred[1]), "second"), (None, hundred, "first"), (hundred, None, "second"),
        ]:
            with self.assertRaises(BadValue) as caught:
                joined(TO_AND_FRO, first, second)
            self.assertEqual(caught.exception.name, name)

    def test_a_refutation_can_be_begun_at_each_of_its_pairs(self):
        for system in [THREE, (4, ((0, 1), (1, 2), (2, 3), (0, 3))), *drawn_systems(30, 3, 5, 6, "begun")]:
            found = refutation(system)
            for place in range(len(found[1])) if found is not None else []:
                begin = found[1][place][1]
                further = (begin, found[1][place + 1:])
                other = joined(system, further, mirrored(system, (found[0], found[1][:place + 1])))
                self.assertIs(accepts_refutation(system, other), True, (system, other))


class Shortened(unittest.TestCase):
    """Point 46."""

    def test_drawn_chains(self):
        met = 0
        for system in SOME_SYSTEMS:
            for chain in drawn_chains(system, 12, "shortened"):
                found = shortened(system, chain)
                self.assertEqual(found, shortened_by_words(chain), (system, chain))
                at = [found[0]] + [pair for _, pair in found[1]]
                self.assertEqual(len(set(at)), len(at))
                self.assertEqual(ends(found), ends(chain))
                self.assertEqual(shortened(system, found), found)
                if is_right_chain(system, chain):
                    self.assertIs(is_right_chain(system, found), True)
                met += len(found[1]) not in (0, len(chain[1]))
        self.assertGreater(met, 100)

    def test_back_to_the_beginning_and_to_other_pairs(self):
        steps = ((1, (0, 2)), (1, (0, 1)), (1, (0, 2)), (0, (1, 2)), (0, (0, 2)), (0, (1, 2)))
        self.assertEqual(shortened(THREE, ((0, 1), steps)), ((0, 1), ((1, (0, 2)), (0, (1, 2)))))
        self.assertEqual(shortened(THREE, ((0, 1), steps[:2])), ((0, 1), ()))
        self.assertEqual(shortened(THREE, ((0, 1), steps[2:5])), ((0, 1), ((1, (0, 2)),)))
        self.assertEqual(shortened(TO_AND_FRO, to_and_fro(100)), ((0, 1), ()))
        self.assertEqual(shortened(TO_AND_FRO, to_and_fro(99)), ((0, 1), ((0, (0, 2)),)))

    def test_the_last_step_from_a_pair_and_the_first_step_to_the_next_one_are_kept(self):
        # Chains need not be right here, so that each step can be told apart by its set.
        system = (4, ((),) * 8)
        chain = ((0, 1), ((0, (0, 2)), (1, (0, 1)), (2, (0, 3)), (3, (1, 2)), (4, (0, 3)), (5, (2, 1)), (6, (2, 1))))
        self.assertEqual(shortened(system, chain), ((0, 1), ((2, (0, 3)), (5, (2, 1)))))

    def test_a_chain_without_repetitions_stays(self):
        self.assertEqual(shortened(THREE, ROUND), ROUND)
        for system in FEW_SYSTEMS:
            for pair in pairs(system[0])[::3]:
                for other in pairs(system[0])[::2]:
                    found = shortest(system, pair, other)
                    if found is not None:
                        self.assertEqual(shortened(system, found), found)


class Changing(unittest.TestCase):
    """Points 47 and 48."""

    def test_renumbering_and_further_sets(self):
        for system in FEW_SYSTEMS:
            for order in rows(system[0])[1::max(1, len(rows(system[0])) // 3)]:
                for chain in drawn_chains(system, 6, "renumbered"):
                    other = ((order[chain[0][0]], order[chain[0][1]]), tuple(
                        (index, (order[x], order[y])) for index, (x, y) in chain[1]
                    ))
                    self.assertEqual(fault(renamed(system, order), other), fault(system, chain))
            more = (system[0], system[1] + ((0, 1),) * (8 - len(system[1])))
            for chain in drawn_chains(system, 6, "more sets"):
                self.assertEqual(fault(more, chain), fault(system, chain))

    def test_no_step_is_right_by_sets_of_one_element_or_all(self):
        for size in (1, 2, 3, 4):
            system = (size, ((), tuple(range(size))) + tuple((x,) for x in range(size)))
            for before in pairs(size):
                for after in pairs(size):
                    for index in range(len(system[1])):
                        self.assertIsNotNone(fault(system, (before, ((index, after),))))
            self.assertIsNone(refutation(system))

    def test_equal_sets(self):
        system = (4, ((1, 2, 3), (0, 1), (1, 2, 3)))
        for before in pairs(4):
            for after in pairs(4):
                one, other = (fault(system, (before, ((index, after),))) for index in (0, 2))
                self.assertEqual(one, other)


if __name__ == "__main__":
    unittest.main()
