"""Chains of steps from pair to pair, which a judge follows step by step."""

from kepttogether.checks import demand, is_integer, is_pair, is_tuple_of
from kepttogether.errors import TooLarge
from kepttogether.systems import is_system
from kepttogether.ways import all_pairs, chain_to, reverse_of, step_table, ways_from

MOST_STEPS = 100
ALIKE = "alike"
BOTH = "both"
INSIDE = "inside"
OUTSIDE = "outside"


def fault(system, chain):
    """Return the fault of the chain, or None if the chain is right."""
    _check_chain(system, chain)
    return _fault(system, chain)


def end_of(system, chain):
    """Return the pair at which the chain ends."""
    _check_chain(system, chain)
    return _end(chain)


def accepts_chain(system, pair, other, value):
    """Tell whether the value is a right chain from the one pair to the other."""
    _check_pairs(system, pair, other)
    return _is_right(system, value) and value[0] == pair and _end(value) == other


def accepts_refutation(system, value):
    """Tell whether the value is a right chain from a pair to its reverse."""
    demand(is_system(system), "system")
    return _is_right(system, value) and _end(value) == reverse_of(value[0])


def shortest(system, pair, other):
    """Return a shortest chain from the one pair to the other, or None if they are not linked."""
    _check_pairs(system, pair, other)
    ways = ways_from(step_table(system), pair)
    if other not in ways:
        return None
    return chain_to(ways, other)


def refutation(system):
    """Return a shortest refutation, or None if there is none."""
    demand(is_system(system), "system")
    table = step_table(system)
    found = []
    for pair in all_pairs(system[0]):
        ways = ways_from(table, pair)
        if reverse_of(pair) in ways:
            found.append(chain_to(ways, reverse_of(pair)))
    return min(found, key=_count_steps, default=None)


def turned(system, chain):
    """Return the chain that leads back."""
    _check_chain(system, chain)
    at, steps = chain
    back = []
    for index, pair in steps:
        back.append((index, at))
        at = pair
    return (at, tuple(reversed(back)))


def mirrored(system, chain):
    """Return the chain with the reverse of each pair."""
    _check_chain(system, chain)
    pair, steps = chain
    return (reverse_of(pair), tuple((index, reverse_of(after)) for index, after in steps))


def joined(system, first, second):
    """Return the first chain with the steps of the second one behind it."""
    demand(is_system(system), "system")
    demand(_is_chain(system, first), "first")
    demand(_is_chain(system, second) and second[0] == _end(first), "second")
    steps = first[1] + second[1]
    if len(steps) > MOST_STEPS:
        raise TooLarge("steps")
    return (first[0], steps)


def shortened(system, chain):
    """Return the chain without the steps that lead back to a pair that was reached before."""
    _check_chain(system, chain)
    pair, steps = chain
    kept = []
    left = _behind_last(pair, steps)
    while left:
        step = left[0]
        kept.append(step)
        left = _behind_last(step[1], left[1:])
    return (pair, tuple(kept))


def _check_chain(system, chain):
    demand(is_system(system), "system")
    demand(_is_chain(system, chain), "chain")


def _check_pairs(system, pair, other):
    demand(is_system(system), "system")
    demand(is_pair(pair, system[0]), "pair")
    demand(is_pair(other, system[0]), "other")


def _is_chain(system, value):
    if not is_tuple_of(value, 2):
        return False
    pair, steps = value
    if not is_pair(pair, system[0]) or not isinstance(steps, tuple) or len(steps) > MOST_STEPS:
        return False
    return all(_is_step(step, system) for step in steps)


def _is_step(value, system):
    size, sets = system
    return is_tuple_of(value, 2) and is_integer(value[0], 0, len(sets) - 1) and is_pair(value[1], size)


def _is_right(system, value):
    return _is_chain(system, value) and _fault(system, value) is None


def _fault(system, chain):
    before, steps = chain
    for place, (index, after) in enumerate(steps):
        word = _fault_of_step(system[1][index], before, after)
        if word is not None:
            return (place, word)
        before = after
    return None


def _fault_of_step(chosen, before, after):
    if before == after:
        return ALIKE
    if before[0] == after[0]:
        stays, left, entered = before[0], before[1], after[1]
    elif before[1] == after[1]:
        stays, left, entered = before[1], before[0], after[0]
    else:
        return BOTH
    if stays in chosen:
        return INSIDE
    if left not in chosen or entered not in chosen:
        return OUTSIDE
    return None


def _end(chain):
    pair, steps = chain
    return steps[-1][1] if steps else pair


def _behind_last(pair, steps):
    # All steps, if none of them leads to the pair.
    places = [place for place, step in enumerate(steps) if step[1] == pair]
    return steps[places[-1] + 1:] if places else steps


def _count_steps(chain):
    return len(chain[1])
