"""Chains, followed step by step: what they are, where they end, and whether all of their steps are right.

The system is not checked here, and it may have more sets than a system of the document: evidence that a
set is never together is a chain for a system with this set behind all others.
"""

from kepttogether.checks import is_integer, is_pair, is_tuple_of
from kepttogether.ways import reverse_of

MOST_STEPS = 100
ALIKE = "alike"
BOTH = "both"
INSIDE = "inside"
OUTSIDE = "outside"


def is_chain(system, value):
    """Tell whether the value is a chain for the system."""
    if not is_tuple_of(value, 2):
        return False
    pair, steps = value
    if not is_pair(pair, system[0]) or not isinstance(steps, tuple) or len(steps) > MOST_STEPS:
        return False
    return all(_is_step(step, system) for step in steps)


def fault_in(system, chain):
    """Return the fault of the chain, or None if the chain is right."""
    before, steps = chain
    for place, (index, after) in enumerate(steps):
        word = _fault_of_step(system[1][index], before, after)
        if word is not None:
            return (place, word)
        before = after
    return None


def last_pair(chain):
    """Return the pair at which the chain ends."""
    pair, steps = chain
    return steps[-1][1] if steps else pair


def is_right(system, value):
    """Tell whether the value is a right chain."""
    return is_chain(system, value) and fault_in(system, value) is None


def leads(system, pair, other, value):
    """Tell whether the value is a right chain from the one pair to the other."""
    return is_right(system, value) and value[0] == pair and last_pair(value) == other


def lead_all(system, links, value):
    """Tell whether the value is a tuple of a right chain for each of the links, which are pairs of pairs."""
    if not is_tuple_of(value, len(links)):
        return False
    return all(leads(system, pair, other, chain) for (pair, other), chain in zip(links, value))


def refutes(system, value):
    """Tell whether the value is a right chain from a pair to its reverse."""
    return is_right(system, value) and last_pair(value) == reverse_of(value[0])


def _is_step(value, system):
    size, sets = system
    return is_tuple_of(value, 2) and is_integer(value[0], 0, len(sets) - 1) and is_pair(value[1], size)


def _fault_of_step(chosen, before, after):
    if before == after:
        return ALIKE
    if before[0] == after[0]:
        stays, left, entered = before[0], before[1], after[1]
    elif before[1] == after[1]:
        stays, left, entered = before[1], before[0], after[0]
    else:
        return BOTH
    if stays in chosen:
        return INSIDE
    if left not in chosen or entered not in chosen:
        return OUTSIDE
    return None
