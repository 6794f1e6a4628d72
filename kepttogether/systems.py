"""Systems of sets, and rows in which these are together."""

from kepttogether.checks import are_below, demand, is_ascending, is_integer, is_tuple_of

LARGEST_SIZE = 8
MOST_SETS = 8


def is_system(value):
    """Tell whether the value is a system."""
    if not is_tuple_of(value, 2):
        return False
    size, sets = value
    if not is_integer(size, 1, LARGEST_SIZE) or not isinstance(sets, tuple) or len(sets) > MOST_SETS:
        return False
    return all(is_ascending(chosen, size) for chosen in sets)


def is_row(value, size):
    """Tell whether the value is a row of so many elements."""
    return is_tuple_of(value, size) and are_below(value, size) and len(set(value)) == size


def spans(system, row):
    """Return the spans of the sets in the row, with None for an empty set."""
    _check_both(system, row)
    return tuple(_span(chosen, row) for chosen in system[1])


def gaps(system, row):
    """Return the gaps of the sets in the row."""
    _check_both(system, row)
    return tuple(_gap(chosen, row) for chosen in system[1])


def together(system, row):
    """Return the indexes of the sets that are together in the row."""
    found = gaps(system, row)
    return tuple(index for index in range(len(found)) if found[index] == ())


def keeps(system, row):
    """Tell whether all sets of the system are together in the row."""
    return all(gap == () for gap in gaps(system, row))


def overlap(first, second):
    """Tell whether the two sets overlap."""
    demand(is_ascending(first, LARGEST_SIZE), "first")
    demand(is_ascending(second, LARGEST_SIZE), "second")
    return _masks_overlap(_mask(first), _mask(second))


def derived(system):
    """Return the derived sets, those with fewer elements first."""
    demand(is_system(system), "system")
    size, sets = system
    found = {}
    waiting = [_mask(chosen) for chosen in sets]
    while waiting:
        one = waiting.pop()
        if one not in found:
            for other in found:
                waiting.extend(_derived_from(one, other))
            found[one] = True
    return tuple(sorted(sorted(_set_of(mask, size) for mask in found), key=len))


def part(system, members):
    """Return the part of the system for the members."""
    demand(is_system(system), "system")
    size, sets = system
    _check_members(members, size)
    return (len(members), tuple(_numbered(chosen, members) for chosen in sets))


def part_of_row(row, members):
    """Return the part of the row for the members."""
    demand(is_some_row(row), "row")
    _check_members(members, len(row))
    return _numbered(row, members)


def renamed(system, order):
    """Return the system with the element order[e] for each element e."""
    demand(is_system(system), "system")
    size, sets = system
    _check_order(order, size)
    return (size, tuple(tuple(sorted(order[x] for x in chosen)) for chosen in sets))


def renamed_row(row, order):
    """Return the row with the element order[e] for each element e."""
    demand(is_some_row(row), "row")
    _check_order(order, len(row))
    return tuple(order[x] for x in row)


def is_some_row(value):
    """Tell whether the value is a row of 1 to 8 elements."""
    return isinstance(value, tuple) and 1 <= len(value) <= LARGEST_SIZE and is_row(value, len(value))


def is_keeping_row(system, value):
    """Tell whether the value is a row that keeps the system."""
    return is_row(value, system[0]) and keeps(system, value)


def _check_both(system, row):
    demand(is_system(system), "system")
    demand(is_row(row, system[0]), "row")


def _check_members(members, size):
    demand(is_ascending(members, size) and members != (), "members")


def _check_order(order, size):
    # An order of some things has the same form as a row of as many elements.
    demand(is_row(order, size), "order")


def _span(chosen, row):
    if chosen == ():
        return None
    places = [row.index(x) for x in chosen]
    return (min(places), max(places))


def _gap(chosen, row):
    if chosen == ():
        return ()
    low, high = _span(chosen, row)
    return tuple(sorted(x for x in row[low:high + 1] if x not in chosen))


def _numbered(sequence, members):
    return tuple(members.index(x) for x in sequence if x in members)


def _mask(chosen):
    # A set as one integer, with the bit x for the element x: each of up to 256 derived
    # sets is compared with each other one, and integers keep that quick.
    return sum(1 << x for x in chosen)


def _set_of(mask, size):
    return tuple(x for x in range(size) if mask >> x & 1)


def _masks_overlap(one, other):
    return (one & other) != 0 and (one & ~other) != 0 and (other & ~one) != 0


def _derived_from(one, other):
    # If one of two sets contains the other, their union and their common part are these two again.
    if not _masks_overlap(one, other):
        return []
    return [one | other, one & other, one & ~other, other & ~one]
