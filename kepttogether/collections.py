"""Collections of the sets of a system: what can be left out of them, and bases."""

from kepttogether.checks import demand, is_integer
from kepttogether.choices import all_of, by_number, check_collection, check_few_sets, only, without
from kepttogether.errors import NotPossible
from kepttogether.following import lead_all
from kepttogether.links import is_contradictory
from kepttogether.systems import is_system
from kepttogether.ways import are_all_linked, chains_for, links_around, reverse_of


def is_possible(system, collection):
    """Tell whether some row keeps all sets of the collection together."""
    check_collection(system, collection)
    return not is_contradictory(only(system, collection))


def can_be_left_out(system, collection, index):
    """Tell whether every row that keeps the other sets of the collection keeps this one as well."""
    _check_index(system, collection, index)
    _check_possible(system, collection)
    return _follow(system, without(collection, (index,)), (index,))


def grounds_for(system, collection, index):
    """Return grounds for leaving the set out of the collection, or None if it cannot be left out."""
    if not can_be_left_out(system, collection, index):
        return None
    return chains_for(only(system, without(collection, (index,))), _links_for(system, index))


def accepts_grounds(system, collection, index, value):
    """Tell whether the value is grounds for leaving the set out of the collection."""
    _check_index(system, collection, index)
    return lead_all(only(system, without(collection, (index,))), _links_for(system, index), value)


def told_base(system):
    """Return the base that is left if the sets are left out where they can be, from the last one to the first."""
    _check_system(system)
    left = all_of(system)
    for index in reversed(all_of(system)):
        rest = without(left, (index,))
        if _follow(system, rest, (index,)):
            left = rest
    return left


def smallest_base(system):
    """Return the first one of the bases with the fewest sets."""
    _check_system(system)
    check_few_sets(system)
    every = all_of(system)
    # A collection with the keeping rows of the system and with the fewest sets is a base: none can be left out of it.
    bases = [few for few in by_number(system) if _follow(system, few, without(every, few))]
    return bases[0]


def _check_index(system, collection, index):
    check_collection(system, collection)
    demand(is_integer(index, 0, len(system[1]) - 1) and index in collection, "index")


def _check_possible(system, collection):
    if not is_possible(system, collection):
        raise NotPossible("contradictory")


def _check_system(system):
    demand(is_system(system), "system")
    _check_possible(system, all_of(system))


def _links_for(system, index):
    # The other elements come first in these pairs: the grounds tell on which side of the set they stand.
    size, sets = system
    return [(reverse_of(pair), reverse_of(other)) for pair, other in links_around(sets[index], size)]


def _follow(system, collection, others):
    # Whether these other sets are together in every row that keeps the collection, which has to be possible.
    links = [link for index in others for link in _links_for(system, index)]
    return are_all_linked(only(system, collection), links)
