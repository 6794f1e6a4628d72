"""Pairs of elements, the steps that lead from one to another, and the shortest ways by these steps.

Nothing is checked here: the modules that use this have checked their arguments. A system may have more
sets here than a system of the document.
"""


def reverse_of(pair):
    """Return the pair with its two elements exchanged."""
    return (pair[1], pair[0])


def all_pairs(size):
    """Return all pairs of elements, ascending."""
    return [(x, y) for x in range(size) for y in range(size) if x != y]


def steps_at(system, pair):
    """Return the steps from the pair, ascending."""
    x, y = pair
    found = []
    for index, chosen in enumerate(system[1]):
        if y in chosen and x not in chosen:
            found.extend([(index, (x, z)) for z in chosen if z != y])
        if x in chosen and y not in chosen:
            found.extend([(index, (z, y)) for z in chosen if z != x])
    return found


def step_table(system):
    """Return the steps from each pair of the system."""
    return {pair: steps_at(system, pair) for pair in all_pairs(system[0])}


def ways_from(table, pair):
    """Return, for each pair that is linked to the pair, the pair before it on a shortest way, and the set."""
    ways = {pair: None}
    level = [pair]
    # All pairs that are so many steps away come before those that are further away: so each way is a shortest one.
    while level:
        further = []
        for before in level:
            for index, after in table[before]:
                if after not in ways:
                    ways[after] = (before, index)
                    further.append(after)
        level = further
    return ways


def chain_to(ways, other):
    """Return the chain to a pair that the ways lead to, from the pair at which they begin."""
    steps = []
    at = other
    while ways[at] is not None:
        before, index = ways[at]
        steps.append((index, at))
        at = before
    return (at, tuple(reversed(steps)))


def shortest_chain(table, pair, other):
    """Return a shortest chain from the one pair to the other, or None if they are not linked."""
    ways = ways_from(table, pair)
    return chain_to(ways, other) if other in ways else None


def shortest_refutation(system):
    """Return a shortest chain from a pair to its reverse, or None if there is none."""
    table = step_table(system)
    chains = [shortest_chain(table, pair, reverse_of(pair)) for pair in all_pairs(system[0])]
    return min([chain for chain in chains if chain is not None], key=_count_steps, default=None)


def first_of_class(system):
    """Return, for each pair, the first one of the pairs that are linked to it: linked pairs have the same one."""
    table = step_table(system)
    first = {}
    # The pairs ascend, so the first one of a class is met before the others.
    for pair in all_pairs(system[0]):
        if pair not in first:
            for linked in ways_from(table, pair):
                first[linked] = pair
    return first


def pair_linked_back(system):
    """Return the first pair that is linked to its reverse, or None if there is none."""
    first = first_of_class(system)
    for pair in all_pairs(system[0]):
        if first[pair] == first[reverse_of(pair)]:
            return pair
    return None


def links_around(chosen, size):
    """Return the links, pairs of pairs, that show that a set is together.

    They are told by each other element, and by each two neighbours in the set: the element comes before both
    or behind both.
    """
    return [
        ((chosen[at], z), (chosen[at + 1], z))
        for z in range(size) if z not in chosen for at in range(len(chosen) - 1)
    ]


def are_all_linked(system, links):
    """Tell whether both pairs of each of the links are linked."""
    first = first_of_class(system)
    return all(first[pair] == first[other] for pair, other in links)


def chains_for(system, links):
    """Return the tuple of a shortest chain for each of the links; the pairs of each are linked."""
    table = step_table(system)
    return tuple(shortest_chain(table, pair, other) for pair, other in links)


def _count_steps(chain):
    return len(chain[1])
