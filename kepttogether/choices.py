"""What the modules of collections and of conflicts have in common: some of the sets of a system, by their indexes."""

from itertools import combinations

from kepttogether.checks import demand, is_ascending
from kepttogether.errors import TooLarge
from kepttogether.systems import is_system

MOST_SETS_TO_TRY = 6


def check_collection(system, collection):
    """Refuse what is no system, and what is no collection of it."""
    demand(is_system(system), "system")
    demand(is_ascending(collection, len(system[1])), "collection")


def check_few_sets(system):
    """Refuse a system with too many sets to go through all of its collections."""
    if len(system[1]) > MOST_SETS_TO_TRY:
        raise TooLarge("sets")


def all_of(system):
    """Return the collection of all sets."""
    return tuple(range(len(system[1])))


def without(collection, left_out):
    """Return the collection without those indexes that are left out."""
    return tuple(index for index in collection if index not in left_out)


def only(system, collection):
    """Return the system with the empty set in place of each set that is not in the collection.

    So the other sets keep their indexes. No step is right by an empty set: chains for this system that
    are right are by the collection.
    """
    size, sets = system
    return (size, tuple(chosen if index in collection else () for index, chosen in enumerate(sets)))


def by_number(system):
    """Return the list of all collections, those with fewer sets first, and then ascending."""
    every = list(all_of(system))
    found = []
    for many in range(len(every) + 1):
        found.extend(list(combinations(every, many)))
    return found
