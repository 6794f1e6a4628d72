"""Reducing trees by sets, the tree of a system, and the grounds that it is this tree."""

from kepttogether.checks import demand, is_tuple_of
from kepttogether.following import lead_all
from kepttogether.parts import ANY, TURN, any_of, content, in_order
from kepttogether.systems import is_system
from kepttogether.trees import canonical, fits, is_tree, told_sets
from kepttogether.ways import chains_for, links_around

NONE_CHOSEN = 0
SOME_CHOSEN = 1
ALL_CHOSEN = 2


def reduced(tree, chosen):
    """Return the canonical tree of those rows of the tree in which the set is together, or None if there are none."""
    # Asking whether the set fits refuses what is no tree, and what is no set of its elements.
    if fits(tree, chosen):
        return canonical(tree)
    found = _brought_together(tree, chosen)
    return None if found is None else in_order(found)


def tree_of(system):
    """Return the tree of the system, or None if no row keeps it."""
    demand(is_system(system), "system")
    size, sets = system
    tree = any_of(list(range(size)))
    for chosen in sets:
        tree = reduced(tree, chosen)
        if tree is None:
            return None
    return tree


def grounds_for(system):
    """Return grounds that the tree of the system has all keeping rows, or None if there are none."""
    tree = tree_of(system)
    if tree is None:
        return None
    return tuple(chains_for(system, links_around(chosen, system[0])) for chosen in told_sets(tree))


def accepts_tree(system, tree, grounds):
    """Tell whether all sets fit the tree, and the grounds show that it has all keeping rows of the system."""
    demand(is_system(system), "system")
    size, sets = system
    if not is_tree(tree, size) or not all(fits(tree, chosen) for chosen in sets):
        return False
    told = told_sets(tree)
    if not is_tuple_of(grounds, len(told)):
        return False
    return all(lead_all(system, links_around(chosen, size), chains) for chosen, chains in zip(told, grounds))


def _share(part, chosen):
    inside = [x in chosen for x in content(part)]
    if all(inside):
        return ALL_CHOSEN
    return SOME_CHOSEN if any(inside) else NONE_CHOSEN


def _sharing(parts, chosen, share):
    return [part for part in parts if _share(part, chosen) == share]


def _brought_together(part, chosen):
    # The part contains all chosen elements, and others; None if they can't be together in a row of it.
    word, children = part
    for at, child in enumerate(children):
        if all(x in content(child) for x in chosen):
            found = _brought_together(child, chosen)
            return None if found is None else (word, children[:at] + (found,) + children[at + 1:])
    if word == TURN:
        return _in_one_line(children, chosen)
    return _around_one(children, chosen)


def _around_one(children, chosen):
    # Children in any order: those with chosen elements become one child, the others stay as they are.
    without = _sharing(children, chosen, NONE_CHOSEN)
    mixed = _sharing(children, chosen, SOME_CHOSEN)
    whole = _grouped(_sharing(children, chosen, ALL_CHOSEN))
    if mixed:
        one = _in_one_line(mixed[:1] + whole + mixed[1:], chosen)
    else:
        one = whole[0]
    return None if one is None else any_of(without + [one])


def _grouped(parts):
    return [any_of(parts)] if parts else []


def _in_one_line(children, chosen):
    # The chosen elements come last in a child, unless no further ones stand behind it: then they come first.
    line = []
    for at, child in enumerate(children):
        drawn = _drawn_out(child, chosen)
        last = all(_share(further, chosen) == NONE_CHOSEN for further in children[at + 1:])
        line.extend(drawn[::-1] if last else drawn)
    return (TURN, tuple(line)) if _are_neighbours(line, chosen) else None


def _drawn_out(part, chosen):
    # The part as a line of parts that are chosen wholly or not at all: at the end those that are chosen,
    # as far as its rows allow this. (Whether they do is seen when the whole line is there.)
    if _share(part, chosen) != SOME_CHOSEN:
        return [part]
    word, children = part
    if word == ANY:
        mixed = _sharing(children, chosen, SOME_CHOSEN)
        without = _grouped(_sharing(children, chosen, NONE_CHOSEN))
        ordered = without + mixed + _grouped(_sharing(children, chosen, ALL_CHOSEN))
    elif _share(children[0], chosen) > _share(children[-1], chosen):
        ordered = children[::-1]
    else:
        ordered = children
    return [piece for child in ordered for piece in _drawn_out(child, chosen)]


def _are_neighbours(line, chosen):
    places = [at for at, part in enumerate(line) if _share(part, chosen) == ALL_CHOSEN]
    return places[-1] - places[0] == len(places) - 1
