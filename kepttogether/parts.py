"""Trees and their parts, from which the functions of trees, of reducing and of listing are made.

A part is a tree of whatever different elements. Only `size_of_tree` and `demand_tree` check what they
are given: the other functions are given parts of trees.
"""

from math import factorial

from kepttogether.checks import demand, is_integer, is_tuple_of
from kepttogether.systems import LARGEST_SIZE

ANY = "any"
TURN = "turn"
FEWEST_IN_ANY = 2
FEWEST_IN_TURN = 3


def size_of_tree(value):
    """Return for how many elements the value is a tree, or None if it is none for 1 to 8 elements."""
    found = []
    waiting = [value]
    # No recursion, as a value that is no tree may be nested as deeply as you like.
    while waiting:
        one = waiting.pop()
        if is_integer(one, 0, LARGEST_SIZE - 1) and one not in found:
            found.append(one)
        elif _is_inner(one):
            waiting.extend(one[1])
        else:
            return None
    return len(found) if sorted(found) == list(range(len(found))) else None


def demand_tree(tree):
    """Raise BadValue unless this is a tree for 1 to 8 elements; return for how many."""
    size = size_of_tree(tree)
    demand(size is not None, "tree")
    return size


def is_element(part):
    """Tell whether the part is an element, and so has no children."""
    return isinstance(part, int)


def content(part):
    """Return the ascending tuple of the elements of the part."""
    if is_element(part):
        return (part,)
    return merged(part[1])


def merged(parts):
    """Return the ascending tuple of the elements of all the parts."""
    return tuple(sorted(x for part in parts for x in content(part)))


def any_of(parts):
    """Return a part that has the parts in any order: with the word any, but of one part this part."""
    return parts[0] if len(parts) == 1 else (ANY, tuple(parts))


def in_order(part):
    """Return the canonical part with the same rows."""
    if is_element(part):
        return part
    word, children = part
    ordered = [in_order(child) for child in children]
    if word == ANY:
        return (ANY, tuple(sorted(ordered, key=_least)))
    if _least(ordered[0]) > _least(ordered[-1]):
        return (TURN, tuple(ordered[::-1]))
    return (TURN, tuple(ordered))


def count_all(part):
    """Return the number of the rows of the part."""
    if is_element(part):
        return 1
    word, children = part
    many = factorial(len(children)) if word == ANY else 2
    for child in children:
        many = many * count_all(child)
    return many


def row_with(part, pair):
    """Return a row of the part that has the pair of its elements, if there is one.

    This row and the one for the reverse of the pair differ only where they must: each pair that is not
    linked to the pair or to its reverse is had by both, or by none.
    """
    if is_element(part):
        return (part,)
    return tuple(x for child in _beginning_with(part, pair) for x in row_with(child, pair))


def _beginning_with(part, pair):
    # The children in a sequence in which those with the elements of the pair have its order. In a part
    # with the word any these two come first, so that no other child is between them.
    word, children = part
    ahead = [child for child in children if pair[0] in content(child)]
    behind = [child for child in children if pair[1] in content(child)]
    if ahead == behind or not ahead or not behind:
        return children
    if word == TURN:
        return children if children.index(ahead[0]) < children.index(behind[0]) else children[::-1]
    return ahead + behind + [child for child in children if child not in ahead + behind]


def _is_inner(value):
    if not is_tuple_of(value, 2) or not isinstance(value[1], tuple):
        return False
    word, children = value
    if word == ANY:
        return len(children) >= FEWEST_IN_ANY
    return word == TURN and len(children) >= FEWEST_IN_TURN


def _least(part):
    return content(part)[0]
