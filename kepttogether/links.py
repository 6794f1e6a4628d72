"""Links: which orders of two elements hang together in all rows that keep a system."""

from kepttogether.checks import demand, is_pair
from kepttogether.systems import is_system
from kepttogether.ways import all_pairs, pair_linked_back, reverse_of, step_table, steps_at, ways_from


def steps_from(system, pair):
    """Return the list of the steps from the pair, ascending."""
    _check_pair(system, pair)
    return steps_at(system, pair)


def class_of(system, pair):
    """Return the tuple of the pairs that are linked to the pair, ascending."""
    _check_pair(system, pair)
    return _class_in(step_table(system), pair)


def are_linked(system, pair, other):
    """Tell whether steps lead from the one pair to the other."""
    _check_pair(system, pair)
    demand(is_pair(other, system[0]), "other")
    return other in ways_from(step_table(system), pair)


def contradictory_pair(system):
    """Return the first pair that is linked to its reverse, or None if there is none."""
    demand(is_system(system), "system")
    return pair_linked_back(system)


def is_contradictory(system):
    """Tell whether some pair is linked to its reverse."""
    return contradictory_pair(system) is not None


def listed_classes(system):
    """Return the list of the listed classes, or None if the system is contradictory."""
    if is_contradictory(system):
        return None
    table = step_table(system)
    classes = []
    told = {}
    # The pairs ascend, so the first one of a class and of the class of its reverse is met before the others.
    for pair in all_pairs(system[0]):
        if pair not in told:
            linked = _class_in(table, pair)
            classes.append(linked)
            for one in linked:
                told[one] = True
                told[reverse_of(one)] = True
    return classes


def count_sides(system):
    """Return the number of the consistent sides of the system."""
    classes = listed_classes(system)
    if classes is None:
        return 0
    free = [linked for linked in classes if any(_is_parted(pair, system[1]) for pair in linked)]
    return 1 << len(free)


def _check_pair(system, pair):
    demand(is_system(system), "system")
    demand(is_pair(pair, system[0]), "pair")


def _class_in(table, pair):
    return tuple(sorted(ways_from(table, pair)))


def _is_parted(pair, sets):
    x, y = pair
    return any((x in chosen) != (y in chosen) for chosen in sets)
