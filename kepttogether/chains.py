"""Chains of steps from pair to pair, which a judge follows step by step."""

from kepttogether.checks import demand, is_pair
from kepttogether.errors import TooLarge
from kepttogether.following import MOST_STEPS, fault_in, is_chain, last_pair, leads, refutes
from kepttogether.systems import is_system
from kepttogether.ways import reverse_of, shortest_chain, shortest_refutation, step_table


def fault(system, chain):
    """Return the fault of the chain, or None if the chain is right."""
    _check_chain(system, chain)
    return fault_in(system, chain)


def end_of(system, chain):
    """Return the pair at which the chain ends."""
    _check_chain(system, chain)
    return last_pair(chain)


def accepts_chain(system, pair, other, value):
    """Tell whether the value is a right chain from the one pair to the other."""
    _check_pairs(system, pair, other)
    return leads(system, pair, other, value)


def accepts_refutation(system, value):
    """Tell whether the value is a right chain from a pair to its reverse."""
    demand(is_system(system), "system")
    return refutes(system, value)


def shortest(system, pair, other):
    """Return a shortest chain from the one pair to the other, or None if they are not linked."""
    _check_pairs(system, pair, other)
    return shortest_chain(step_table(system), pair, other)


def refutation(system):
    """Return a shortest refutation, or None if there is none."""
    demand(is_system(system), "system")
    return shortest_refutation(system)


def turned(system, chain):
    """Return the chain that leads back."""
    _check_chain(system, chain)
    at, steps = chain
    back = []
    for index, pair in steps:
        back.append((index, at))
        at = pair
    return (at, tuple(reversed(back)))


def mirrored(system, chain):
    """Return the chain with the reverse of each pair."""
    _check_chain(system, chain)
    pair, steps = chain
    return (reverse_of(pair), tuple((index, reverse_of(after)) for index, after in steps))


def joined(system, first, second):
    """Return the first chain with the steps of the second one behind it."""
    demand(is_system(system), "system")
    demand(is_chain(system, first), "first")
    demand(is_chain(system, second) and second[0] == last_pair(first), "second")
    steps = first[1] + second[1]
    if len(steps) > MOST_STEPS:
        raise TooLarge("steps")
    return (first[0], steps)


def shortened(system, chain):
    """Return the chain without the steps that lead back to a pair that was reached before."""
    _check_chain(system, chain)
    pair, steps = chain
    kept = []
    left = _behind_last(pair, steps)
    while left:
        step = left[0]
        kept.append(step)
        left = _behind_last(step[1], left[1:])
    return (pair, tuple(kept))


def _check_chain(system, chain):
    demand(is_system(system), "system")
    demand(is_chain(system, chain), "chain")


def _check_pairs(system, pair, other):
    demand(is_system(system), "system")
    demand(is_pair(pair, system[0]), "pair")
    demand(is_pair(other, system[0]), "other")


def _behind_last(pair, steps):
    # All steps, if none of them leads to the pair.
    places = [place for place, step in enumerate(steps) if step[1] == pair]
    return steps[places[-1] + 1:] if places else steps
