"""Conflicts: collections that no row keeps, each set of which is needed for this; and removals, which end them."""

from kepttogether.chains import accepts_refutation, refutation
from kepttogether.checks import demand, is_tuple_of
from kepttogether.choices import all_of, by_number, check_collection, check_few_sets, only, without
from kepttogether.collections import is_possible
from kepttogether.solving import ROW, solve
from kepttogether.systems import is_keeping_row, is_system


def told_conflict(system):
    """Return the conflict that is left if the sets are left out where they can be, from the last one to the first.

    It is None if some row keeps the system.
    """
    demand(is_system(system), "system")
    left = all_of(system)
    if is_possible(system, left):
        return None
    for index in reversed(all_of(system)):
        rest = without(left, (index,))
        if not is_possible(system, rest):
            left = rest
    return left


def smallest_conflict(system):
    """Return the first one of the conflicts with the fewest sets, or None if some row keeps the system."""
    demand(is_system(system), "system")
    check_few_sets(system)
    # With one set less each of the collections with the fewest sets is possible: so these are conflicts.
    for collection in by_number(system):
        if not is_possible(system, collection):
            return collection
    return None


def conflict_grounds(system, collection):
    """Return grounds for the conflict, or None if the collection is none."""
    check_collection(system, collection)
    chain = refutation(only(system, collection))
    rows = [_row_keeping(system, rest) for rest in _each_left_out(collection)]
    if chain is None or None in rows:
        return None
    return (chain, tuple(rows))


def accepts_conflict(system, collection, value):
    """Tell whether the value is grounds for this conflict."""
    check_collection(system, collection)
    if not is_tuple_of(value, 2):
        return False
    chain, rows = value
    if not accepts_refutation(only(system, collection), chain) or not is_tuple_of(rows, len(collection)):
        return False
    return all(is_keeping_row(only(system, rest), row) for rest, row in zip(_each_left_out(collection), rows))


def smallest_removal(system):
    """Return the first one of the removals with the fewest sets."""
    demand(is_system(system), "system")
    check_few_sets(system)
    every = all_of(system)
    # Where fewer sets would do, there is a collection with fewer: so each of the sets has to be removed.
    removals = [few for few in by_number(system) if is_possible(system, without(every, few))]
    return removals[0]


def removal_grounds(system, collection):
    """Return grounds for the removal, or None if the collection is none."""
    check_collection(system, collection)
    row = _row_keeping(system, without(all_of(system), collection))
    chains = [refutation(only(system, more)) for more in _each_put_back(system, collection)]
    if row is None or None in chains:
        return None
    return (row, tuple(chains))


def accepts_removal(system, collection, value):
    """Tell whether the value is grounds for this removal."""
    check_collection(system, collection)
    if not is_tuple_of(value, 2):
        return False
    row, chains = value
    kept = without(all_of(system), collection)
    if not is_keeping_row(only(system, kept), row) or not is_tuple_of(chains, len(collection)):
        return False
    return all(
        accepts_refutation(only(system, more), chain)
        for more, chain in zip(_each_put_back(system, collection), chains)
    )


def _row_keeping(system, collection):
    word, found = solve(only(system, collection))
    return found if word == ROW else None


def _each_left_out(collection):
    # The collection without one of its sets, for each of them.
    return [without(collection, (index,)) for index in collection]


def _each_put_back(system, collection):
    # The sets that are not in the collection, and one of those that are, for each of these.
    every = all_of(system)
    return [without(every, without(collection, (index,))) for index in collection]
