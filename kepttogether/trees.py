"""Trees: what they are, their rows, and the sets that are together in all of these."""

from kepttogether.checks import demand, is_ascending, is_integer
from kepttogether.parts import (
    ANY, TURN, content, count_all, demand_tree, in_order, is_element, merged, size_of_tree,
)
from kepttogether.systems import LARGEST_SIZE, is_row


def is_tree(value, size):
    """Tell whether the value is a tree for so many elements."""
    demand(is_integer(size, 1, LARGEST_SIZE), "size")
    return size_of_tree(value) == size


def count_rows(tree):
    """Return the number of the rows of the tree."""
    demand_tree(tree)
    return count_all(tree)


def is_row_of(tree, row):
    """Tell whether the row is a row of the tree."""
    size = demand_tree(tree)
    demand(is_row(row, size), "row")
    return _has_row(tree, row)


def canonical(tree):
    """Return the canonical tree with the same rows."""
    demand_tree(tree)
    return in_order(tree)


def fits(tree, chosen):
    """Tell whether the set is together in all rows of the tree."""
    size = demand_tree(tree)
    demand(is_ascending(chosen, size), "chosen")
    if len(chosen) < 2:
        return True
    part = _least_part(tree, chosen)
    if content(part) == chosen:
        return True
    word, children = part
    return word == TURN and any(merged(run) == chosen for run in _runs(children))


def told_sets(tree):
    """Return the list of the sets that tell which rows the tree has, ascending."""
    demand_tree(tree)
    # The content of the tree itself is together in every row, and not told.
    return sorted(chosen for chosen in _told(tree) if chosen != content(tree))


def tree_text(tree):
    """Return the text of the tree."""
    demand_tree(tree)
    return _text(tree)


def _has_row(part, row):
    # A row is a row of the part if each part within it has its elements side by side, and the
    # children of each part with the word turn stand in their order or in the reversed one.
    if is_element(part):
        return True
    word, children = part
    places = [_places(child, row) for child in children]
    ordered = sorted(places)
    if word == TURN and places != ordered and places != ordered[::-1]:
        return False
    return all(_is_unbroken(there) for there in places) and all(_has_row(child, row) for child in children)


def _places(part, row):
    return sorted(row.index(x) for x in content(part))


def _is_unbroken(places):
    return places[-1] - places[0] == len(places) - 1


def _least_part(part, chosen):
    if is_element(part):
        return part
    for child in part[1]:
        if all(x in content(child) for x in chosen):
            return _least_part(child, chosen)
    return part


def _runs(children):
    many = len(children)
    return [children[low:high] for low in range(many) for high in range(low + 1, many + 1)]


def _told(part):
    if is_element(part):
        return []
    word, children = part
    told = [content(part)]
    if word == TURN:
        told.extend([merged(children[low:low + 2]) for low in range(len(children) - 1)])
    for child in children:
        told.extend(_told(child))
    return told


def _text(part):
    if is_element(part):
        return str(part)
    word, children = part
    texts = " ".join([_text(child) for child in children])
    return f"({texts})" if word == ANY else f"[{texts}]"
