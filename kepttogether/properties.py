"""Properties of rows: whether they are always, sometimes or never so for a system, and evidence of this."""

from kepttogether.checks import are_below, demand, is_ascending, is_integer, is_pair
from kepttogether.errors import NotPossible
from kepttogether.following import is_right, last_pair, lead_all, leads, refutes
from kepttogether.links import is_contradictory
from kepttogether.listing import kept_rows
from kepttogether.parts import row_with
from kepttogether.reducing import reduced, tree_of
from kepttogether.systems import is_keeping_row, is_row, is_system, keeps
from kepttogether.ways import (
    all_pairs, are_all_linked, chains_for, first_of_class, links_around, pair_linked_back, reverse_of, shortest_chain,
    shortest_refutation, step_table,
)

EQUIVALENT = "equivalent"
TOGETHER = "together"
BETWEEN = "between"
FIRST = "first"
ALWAYS = "always"
SOMETIMES = "sometimes"
NEVER = "never"


def is_property(value, size):
    """Tell whether the value is a property of rows of so many elements."""
    if not isinstance(value, tuple) or len(value) < 2:
        return False
    word = value[0]
    told_of = value[1:]
    if word == EQUIVALENT:
        return len(told_of) == 2 and all(is_pair(pair, size) for pair in told_of)
    if word == TOGETHER:
        return len(told_of) == 1 and is_ascending(told_of[0], size)
    if word == BETWEEN:
        return len(told_of) == 3 and are_below(told_of, size) and len(set(told_of)) == 3
    return word == FIRST and len(told_of) == 1 and is_integer(told_of[0], 0, size - 1)


def has(system, row, asked):
    """Tell whether the row has the property."""
    demand(is_system(system), "system")
    demand(is_row(row, system[0]), "row")
    demand(is_property(asked, system[0]), "asked")
    return _has(row, asked)


def told(system, asked):
    """Tell whether the property is always, sometimes or never so for the system."""
    _check_asked(system, asked)
    _check_possible(system)
    if _is_always(system, asked):
        return ALWAYS
    return NEVER if _is_never(system, asked) else SOMETIMES


def evidence_for(system, asked):
    """Return evidence for what is told of the property, which is accepted."""
    word = told(system, asked)
    if word == ALWAYS:
        return (ALWAYS, chains_for(system, _links_for(system, asked)))
    if word == NEVER:
        return (NEVER, _chain_against(system, asked))
    row, other = _rows_for(system, asked)
    return (SOMETIMES, row, other)


def accepts_evidence(system, asked, evidence):
    """Tell whether the evidence shows what it tells of the property."""
    _check_asked(system, asked)
    if not isinstance(evidence, tuple) or len(evidence) < 2:
        return False
    word = evidence[0]
    shown = evidence[1:]
    if word == ALWAYS:
        return len(shown) == 1 and _shows_always(system, asked, shown[0])
    if word == NEVER:
        return len(shown) == 1 and _shows_never(system, asked, shown[0])
    return word == SOMETIMES and len(shown) == 2 and _shows_sometimes(system, asked, shown)


def _check_asked(system, asked):
    demand(is_system(system), "system")
    demand(is_property(asked, system[0]), "asked")


def _check_possible(system):
    if is_contradictory(system):
        raise NotPossible("contradictory")


def _compared(asked):
    # The two pairs of a property with the word equivalent, or with the word between, which is the same for two pairs.
    if asked[0] == BETWEEN:
        x, y, z = asked[1:]
        return ((x, y), (y, z))
    return asked[1:]


def _has(row, asked):
    word = asked[0]
    if word == TOGETHER:
        return keeps((len(row), (asked[1],)), row)
    if word == FIRST:
        return row[0] == asked[1]
    pair, other = _compared(asked)
    return _has_pair(row, pair) == _has_pair(row, other)


def _has_pair(row, pair):
    return row.index(pair[0]) < row.index(pair[1])


def _with_set(system, chosen):
    # One set more than a system may have, perhaps: only what leaves its system unchecked can be asked about it.
    size, sets = system
    return (size, (*sets, chosen))


def _links_for(system, asked):
    # The links that are asked for what is always so.
    word = asked[0]
    if word == TOGETHER:
        return links_around(asked[1], system[0])
    return [] if word == FIRST else [_compared(asked)]


def _is_always(system, asked):
    if asked[0] == FIRST:
        return system[0] == 1
    return are_all_linked(system, _links_for(system, asked))


def _is_never(system, asked):
    word = asked[0]
    if word == TOGETHER:
        return pair_linked_back(_with_set(system, asked[1])) is not None
    if word == FIRST:
        return _chain_from_first_to_last(system, asked[1]) is not None
    pair, other = _compared(asked)
    return are_all_linked(system, [(pair, reverse_of(other))])


def _chain_against(system, asked):
    word = asked[0]
    if word == TOGETHER:
        return shortest_refutation(_with_set(system, asked[1]))
    if word == FIRST:
        return _chain_from_first_to_last(system, asked[1])
    pair, other = _compared(asked)
    return shortest_chain(step_table(system), pair, reverse_of(other))


def _chain_from_first_to_last(system, x):
    # A row with such a pair (x, y) has a pair (z, x) as well, so x can't come first; None if there is no such chain.
    first = first_of_class(system)
    found = all_pairs(system[0])
    for pair in [pair for pair in found if pair[0] == x]:
        for other in [other for other in found if other[1] == x]:
            if first[pair] == first[other]:
                return shortest_chain(step_table(system), pair, other)
    return None


def _rows_for(system, asked):
    # A keeping row with the property, and one without it.
    word = asked[0]
    if word == FIRST:
        row = kept_rows(system, (asked[1],), 0, 1)[0]
        return (row, row[::-1])
    tree = tree_of(system)
    if word != TOGETHER:
        pair, other = _compared(asked)
        return _rows_apart(tree, pair, other)
    chosen = asked[1]
    loose = [link for link in links_around(chosen, system[0]) if not are_all_linked(system, [link])]
    pair, other = loose[0]
    # Of the reduced tree each row is right: it is asked for the one with the first two elements in their order.
    return (row_with(reduced(tree, chosen), chosen[:2]), _rows_apart(tree, pair, other)[1])


def _rows_apart(tree, pair, other):
    # Two rows, the first one with both pairs or none of them, the other one with one of them. (They are not linked.)
    row = row_with(tree, pair)
    back = row_with(tree, reverse_of(pair))
    return (row, back) if _has_pair(row, other) else (back, row)


def _shows_always(system, asked, chains):
    if asked[0] == FIRST and system[0] != 1:
        return False
    return lead_all(system, _links_for(system, asked), chains)


def _shows_never(system, asked, chain):
    word = asked[0]
    if word == TOGETHER:
        return refutes(_with_set(system, asked[1]), chain)
    if word == FIRST:
        return is_right(system, chain) and chain[0][0] == asked[1] and last_pair(chain)[1] == asked[1]
    pair, other = _compared(asked)
    return leads(system, pair, reverse_of(other), chain)


def _shows_sometimes(system, asked, kept):
    if not all(is_keeping_row(system, row) for row in kept):
        return False
    return _has(kept[0], asked) and not _has(kept[1], asked)
