"""Tournaments: an order for each two elements, also with circles, and the rows that are made of them."""

from kepttogether.checks import demand, is_ascending, is_integer, is_pair, is_tuple_of
from kepttogether.systems import LARGEST_SIZE


def is_tournament(size, value):
    """Tell whether the value is a tournament of so many elements."""
    demand(is_integer(size, 1, LARGEST_SIZE), "size")
    ascending = [(x, y) for x in range(size) for y in range(x + 1, size)]
    if not is_tuple_of(value, len(ascending)) or not all(is_pair(pair, size) for pair in value):
        return False
    return list(value) == sorted(value) and sorted(tuple(sorted(pair)) for pair in value) == ascending


def is_closed(size, tournament, chosen):
    """Tell whether each other element precedes all chosen ones, or is preceded by all of them."""
    _check_chosen(size, tournament, chosen)
    return _parting(chosen, _all_members(size), _table(tournament)) == []


def smallest_closed(size, tournament, chosen):
    """Return the smallest closed set that contains the chosen elements."""
    _check_chosen(size, tournament, chosen)
    return _smallest_closed(chosen, _all_members(size), _table(tournament))


def components(size, tournament):
    """Return the components of all elements, in their sequence."""
    _check_tournament(size, tournament)
    return tuple(_components(_all_members(size), _table(tournament)))


def row_of(size, tournament):
    """Return the row of the tournament."""
    _check_tournament(size, tournament)
    return _row(_all_members(size), _table(tournament))


def _check_tournament(size, tournament):
    demand(is_tournament(size, tournament), "tournament")


def _check_chosen(size, tournament, chosen):
    _check_tournament(size, tournament)
    demand(is_ascending(chosen, size), "chosen")


def _all_members(size):
    return tuple(range(size))


def _table(tournament):
    # A pair is looked up many times, and more quickly here than in a tuple.
    return {pair: True for pair in tournament}


def _parting(chosen, members, pairs):
    # The members that precede some of the chosen elements, and are preceded by others.
    return [z for z in members if z not in chosen and _is_amid(z, chosen, pairs)]


def _is_amid(z, chosen, pairs):
    return any((x, z) in pairs for x in chosen) and any((z, x) in pairs for x in chosen)


def _smallest_closed(chosen, members, pairs):
    # A closed set that contains the chosen elements contains each one that parts them, too.
    closed = chosen
    parting = _parting(closed, members, pairs)
    while parting:
        closed = tuple(sorted([*closed, *parting]))
        parting = _parting(closed, members, pairs)
    return closed


def _components(members, pairs):
    # The further behind a component stands, the more elements lead to each of its own ones.
    found = {}
    for x in members:
        found.setdefault(_count_leading(x, members, pairs), []).append(x)
    return [tuple(found[many]) for many in sorted(found)]


def _count_leading(x, members, pairs):
    leading = [x]
    fresh = [x]
    while fresh:
        fresh = [y for y in members if y not in leading and any((y, z) in pairs for z in fresh)]
        leading = leading + fresh
    return len(leading)


def _blocks(members, pairs):
    # The first element that is left is the least one of its block, so the blocks come in their order.
    found = []
    left = members
    while left:
        block = _block_of(left[0], members, pairs)
        found.append(block)
        left = tuple(y for y in left if y not in block)
    return found


def _block_of(x, members, pairs):
    return tuple(y for y in members if y == x or _share_block(x, y, members, pairs))


def _share_block(x, y, members, pairs):
    return len(_smallest_closed((x, y), members, pairs)) < len(members)


def _row(members, pairs):
    if len(members) == 1:
        return members
    groups = _components(members, pairs)
    if len(groups) == 1:
        groups = _blocks(members, pairs)
    return tuple(x for group in groups for x in _row(group, pairs))
