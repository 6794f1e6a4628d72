"""Pairs of elements, the steps that lead from one to another, and the shortest ways by these steps.

Nothing is checked here: the modules that use this have checked their arguments.
"""


def reverse_of(pair):
    """Return the pair with its two elements exchanged."""
    return (pair[1], pair[0])


def all_pairs(size):
    """Return all pairs of elements, ascending."""
    return [(x, y) for x in range(size) for y in range(size) if x != y]


def steps_at(system, pair):
    """Return the steps from the pair, ascending."""
    x, y = pair
    found = []
    for index, chosen in enumerate(system[1]):
        if y in chosen and x not in chosen:
            found.extend([(index, (x, z)) for z in chosen if z != y])
        if x in chosen and y not in chosen:
            found.extend([(index, (z, y)) for z in chosen if z != x])
    return found


def step_table(system):
    """Return the steps from each pair of the system."""
    return {pair: steps_at(system, pair) for pair in all_pairs(system[0])}


def ways_from(table, pair):
    """Return, for each pair that is linked to the pair, the pair before it on a shortest way, and the set."""
    ways = {pair: None}
    level = [pair]
    # All pairs that are so many steps away come before those that are further away: so each way is a shortest one.
    while level:
        further = []
        for before in level:
            for index, after in table[before]:
                if after not in ways:
                    ways[after] = (before, index)
                    further.append(after)
        level = further
    return ways


def chain_to(ways, other):
    """Return the chain to a pair that the ways lead to, from the pair at which they begin."""
    steps = []
    at = other
    while ways[at] is not None:
        before, index = ways[at]
        steps.append((index, at))
        at = before
    return (at, tuple(reversed(steps)))
