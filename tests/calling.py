"""Calls of all functions of the interface with right arguments, each with the kind of its result."""

from kepttogether import collections, conflicts
from kepttogether.chains import (
    accepts_chain, accepts_refutation, end_of, fault, joined, mirrored, refutation, shortened, shortest, turned,
)
from kepttogether.deciding import tournament_of
from kepttogether.editor import Editor
from kepttogether.journals import are_right, replayed
from kepttogether.links import (
    are_linked, class_of, contradictory_pair, count_sides, is_contradictory, listed_classes, steps_from,
)
from kepttogether.listing import count_beginning, count_kept, index_of_kept, kept_rows, nth_kept
from kepttogether.properties import accepts_evidence, evidence_for, has, is_property, told
from kepttogether.reading import next_tokens, read_chain, read_row, read_system
from kepttogether.reducing import accepts_tree, grounds_for, reduced, tree_of
from kepttogether.scanning import scan
from kepttogether.sides import (
    circle, contradiction, is_sides, required, respects, shows_circle, shows_contradiction, sides_of,
)
from kepttogether.solving import accepts, row_of_sides, solve
from kepttogether.systems import (
    derived, gaps, is_row, is_system, keeps, overlap, part, part_of_row, renamed, renamed_row, spans, together,
)
from kepttogether.tournaments import components, is_closed, is_tournament, row_of, smallest_closed
from kepttogether.trees import canonical, count_rows, fits, is_row_of, is_tree, told_sets, tree_text
from kepttogether.writing import chain_text, row_text, system_text
from asking import drawn_properties
from choosing import all_collections, is_conflict, is_removal, sets_of
from editing import NAMES, possible_commands
from growing import all_trees, drawn_trees, leaves
from support import (
    EDGE_SYSTEMS, LARGE_SYSTEMS, all_tournaments, are_consistent, drawn_sides, drawn_tournaments, keeping_rows,
    linked_pairs, pairs,
)

ROUND = (3, ((0,), (1,), (2,)))
ROUND_ABOUT = ((0, -1, 1), (1, 0, -1), (-1, 1, 0))
AGAINST = ((0, -1, 1), (1, 0, -1), (1, 1, 0))


def calls():
    """Calls of all functions with right arguments, each with the kind of its result (None where that is None)."""
    found = calls_of_systems() + calls_of_links() + calls_of_chains() + calls_of_tournaments()
    found += calls_of_solving() + calls_of_trees() + calls_of_listing()
    found += calls_of_properties() + calls_of_collections() + calls_of_conflicts()
    return found + calls_of_texts() + calls_of_journals()


def calls_of_systems():
    found = []
    for system in EDGE_SYSTEMS + LARGE_SYSTEMS:
        row, order = tuple(range(system[0]))[::-1], tuple(range(1, system[0])) + (0,)
        found += [(function, (system, row), tuple) for function in (spans, gaps, together)]
        found += [(keeps, (system, row), bool), (is_row, (row, system[0]), bool), (is_system, (system,), bool)]
        found += [(derived, (system,), tuple), (part, (system, row[:1]), tuple), (part_of_row, (row, row[-1:]), tuple)]
        found += [(renamed, (system, order), tuple), (renamed_row, (row, order), tuple)]
        sides = drawn_sides(system, 1, "calls")[0]
        found += [(is_sides, (system, sides), bool), (required, (system, sides), tuple)]
        found += [(respects, (system, sides, row), bool), (shows_circle, (system, sides, [0, [1], 2]), bool)]
        found += [(shows_contradiction, (system, sides, [[0, 1], 0, 1]), bool), (is_system, ([system, []],), bool)]
        found += [(is_sides, (system, [list(sides)]), bool), (is_row, ([list(row)], 1), bool)]
        found += [(sides_of, (system, row), tuple) for row in (keeping_rows(system) if system[0] < 6 else [])]
    found += [(overlap, ((0, 1), (1, 2)), bool), (overlap, ((), (1, 2)), bool)]
    found += [(contradiction, (ROUND, AGAINST), tuple), (contradiction, (ROUND, ROUND_ABOUT), None)]
    found += [(circle, (ROUND, ROUND_ABOUT), tuple), (circle, (ROUND, ((0, -1, -1), (1, 0, -1), (1, 1, 0))), None)]
    return found


def is_no_way_back(system):
    """Whether no pair is linked to its reverse."""
    return not any(pair[::-1] in linked for pair, linked in linked_pairs(system).items())


def calls_of_links():
    found = []
    for system in EDGE_SYSTEMS + LARGE_SYSTEMS[:9]:
        for pair in pairs(system[0])[::7]:
            found += [(steps_from, (system, pair), list), (class_of, (system, pair), tuple)]
            found += [(are_linked, (system, pair, pair[::-1]), bool)]
        possible = is_no_way_back(system)
        found += [(contradictory_pair, (system,), None if possible else tuple), (count_sides, (system,), int)]
        found += [(is_contradictory, (system,), bool), (listed_classes, (system,), list if possible else None)]
        found += [
            (tournament_of, (system, sides), tuple if are_consistent(system, sides) else None)
            for sides in drawn_sides(system, 4, "tournaments")
        ]
    return found


def calls_of_chains():
    found = []
    for system in [system for system in EDGE_SYSTEMS + LARGE_SYSTEMS[:9] if system[0] > 1]:
        linked = linked_pairs(system)
        for pair, other in zip(pairs(system[0])[::3], pairs(system[0])[::2]):
            found += [(shortest, (system, pair, other), tuple if other in linked[pair] else None)]
        chain = shortest(system, (0, 1), max(linked[(0, 1)]))
        found += [(function, (system, chain), tuple) for function in (end_of, turned, mirrored, shortened)]
        found += [(joined, (system, chain, turned(system, chain)), tuple), (fault, (system, chain), None)]
        found += [(accepts_chain, (system, (0, 1), (1, 0), value), bool) for value in (chain, [[0, 1], [chain]])]
        found += [(accepts_refutation, (system, value), bool) for value in (chain, [[0, 1], [chain]])]
        found += [(refutation, (system,), None if is_no_way_back(system) else tuple)]
        if system[1]:
            found += [(fault, (system, ((0, 1), ((0, (0, 1)),))), tuple)]
    return found


def calls_of_tournaments():
    found = []
    for size in range(1, 9):
        for tournament in all_tournaments(size)[:3] if size < 4 else drawn_tournaments(size, 3, "calls"):
            chosen = tuple(range(0, size, 2))
            found += [(is_tournament, (size, value), bool) for value in (tournament, list(tournament), [[tournament]])]
            found += [(is_closed, (size, tournament, chosen), bool), (components, (size, tournament), tuple)]
            found += [(smallest_closed, (size, tournament, chosen), tuple), (row_of, (size, tournament), tuple)]
    return found


def calls_of_solving():
    found = []
    for system in EDGE_SYSTEMS + LARGE_SYSTEMS[:9]:
        possible = is_no_way_back(system)
        found += [(solve, (system,), tuple)]
        found += [(accepts, (system, answer), bool) for answer in (solve(system), ["row", [0]], ("row", [0]))]
        found += [(grounds_for, (system,), tuple if possible else None)]
        # A tree of one element is a number.
        found += [(tree_of, (system,), (tuple if system[0] > 1 else int) if possible else None)]
        trees = (tree_of(system), [tree_of(system)], ["any", [0, 1]])
        found += [(accepts_tree, (system, tree, grounds_for(system)), bool) for tree in trees]
        found += [(accepts_tree, (system, trees[0], grounds), bool) for grounds in ([], [[], []], ((), []), None)]
        found += [
            (row_of_sides, (system, sides), tuple if are_consistent(system, sides) else None)
            for sides in drawn_sides(system, 4, "rows of sides")
        ]
    return found


def calls_of_trees():
    found = []
    for tree in all_trees(1) + all_trees(2) + all_trees(3) + drawn_trees(5, 4, "calls") + drawn_trees(8, 4, "calls"):
        size = len(leaves(tree))
        row, kind = tuple(range(size)), tuple if size > 1 else int
        found += [(is_tree, (value, size), bool) for value in (tree, [tree], ["any", [0, 1]], ("any", [0, [1]]))]
        found += [(count_rows, (tree,), int), (is_row_of, (tree, row), bool), (canonical, (tree,), kind)]
        found += [(fits, (tree, chosen), bool) for chosen in ((), row[::2], row)]
        found += [(told_sets, (tree,), list), (tree_text, (tree,), str), (reduced, (tree, row), kind)]
    found += [(reduced, (("any", (0, 1, 2)), (0, 2)), tuple), (reduced, (("turn", (0, 1, 2)), (0, 2)), None)]
    return found


def calls_of_listing():
    found = []
    for system in EDGE_SYSTEMS + LARGE_SYSTEMS[:9]:
        possible = is_no_way_back(system)
        found += [(count_kept, (system,), int), (count_beginning, (system, ()), int)]
        found += [(count_beginning, (system, (system[0] - 1,)), int), (kept_rows, (system, (), 1, 3), list)]
        found += [(kept_rows, (system, (0,), 0, 5), list), (index_of_kept, (system, [0, [1]]), None)]
        if possible:
            row = nth_kept(system, 0)
            found += [(nth_kept, (system, 0), tuple), (index_of_kept, (system, row), int)]
            found += [(kept_rows, (system, row, 0, 5), list)]
    return found


def calls_of_properties():
    found = []
    for system in EDGE_SYSTEMS + LARGE_SYSTEMS[:9]:
        row = tuple(range(system[0]))[::-1]
        for asked in drawn_properties(system[0], 6, "calls"):
            found += [(is_property, (value, system[0]), bool) for value in (asked, [asked], ("together", [0, [1]]))]
            found += [(has, (system, row, asked), bool)]
            found += [(accepts_evidence, (system, asked, value), bool) for value in (["always", []], ("never", [[0]]))]
            if is_no_way_back(system):
                found += [(told, (system, asked), str), (evidence_for, (system, asked), tuple)]
                found += [(accepts_evidence, (system, asked, evidence_for(system, asked)), bool)]
    return found


def calls_of_collections():
    found = []
    for system in EDGE_SYSTEMS + LARGE_SYSTEMS[:9]:
        for collection in all_collections(system)[::50] + all_collections(system)[-1:]:
            possible = is_no_way_back(sets_of(system, collection))
            found += [(collections.is_possible, (system, collection), bool)]
            for index in collection[::3]:
                given = (system, collection, index)
                found += [(collections.accepts_grounds, (*given, value), bool) for value in ([[]], ([0, [1]],), ())]
                if possible:
                    kind = tuple if collections.can_be_left_out(*given) else None
                    found += [(collections.can_be_left_out, given, bool), (collections.grounds_for, given, kind)]
        if is_no_way_back(system):
            found += [(collections.told_base, (system,), tuple)]
            found += [(collections.smallest_base, (system,), tuple)] if len(system[1]) < 7 else []
    return found


def calls_of_conflicts():
    found = []
    for system in EDGE_SYSTEMS + [LARGE_SYSTEMS[5]]:
        possible = is_no_way_back(system)
        found += [(conflicts.told_conflict, (system,), None if possible else tuple)]
        if len(system[1]) < 7:
            found += [(conflicts.smallest_conflict, (system,), None if possible else tuple)]
            found += [(conflicts.smallest_removal, (system,), tuple)]
        # The rows of as few elements are gone through to tell whether there are grounds.
        for collection in all_collections(system)[::3] if system[0] < 6 else []:
            given = (system, collection)
            kinds = [tuple if is_one(*given) else None for is_one in (is_conflict, is_removal)]
            found += [(conflicts.conflict_grounds, given, kinds[0]), (conflicts.removal_grounds, given, kinds[1])]
            for value in ([[0, 1], [[]]], ([0, [1]], ([0, [1]],))):
                found += [(conflicts.accepts_conflict, (*given, value), bool)]
                found += [(conflicts.accepts_removal, (*given, value), bool)]
    return found


def calls_of_texts():
    found = [(scan, (text,), list) for text in ("", "  ", "4: 1 0 | -", "0<1 / 2: 0<3", ":|-</", "007")]
    found += [(next_tokens, (text, kind), list) for text in ("", "4") for kind in ("system", "row", "chain")]
    for system in EDGE_SYSTEMS + LARGE_SYSTEMS[:9]:
        row = tuple(range(system[0]))[::-1]
        found += [(system_text, (system,), str), (read_system, (system_text(system),), tuple)]
        found += [(row_text, (row,), str), (read_row, (system[0], row_text(row)), tuple)]
        if system[0] > 1:
            chain = ((0, 1), tuple((0, pair) for pair in pairs(system[0])[:100]) if system[1] else ())
            found += [(chain_text, (system, chain), str)]
            found += [(read_chain, (system, chain_text(system, chain)), tuple)]
    return found


def calls_of_journals():
    found = []
    for names in (NAMES[:1], NAMES[:3], NAMES):
        journal = possible_commands(names, 20, "calls")
        # An editor tells what it is by its methods: for the kinds of their results see the tests of editors.
        found += [(replayed, (names, journal[:many]), Editor) for many in (0, 1, 20)]
        records = replayed(names, journal).records()
        found += [(are_right, (names, value), bool) for value in (records, list(records), [[journal]], ([records],))]
    return found
