"""The keeping rows of a system in their order: how many there are, and which has an index."""

from kepttogether.checks import are_below, demand, is_integer
from kepttogether.parts import ANY, any_of, content, count_all, is_element
from kepttogether.reducing import tree_of
from kepttogether.systems import is_keeping_row, is_system

LARGEST_INDEX = 100000
MOST_ROWS = 20


def count_kept(system):
    """Return the number of the keeping rows."""
    return _count(tree_of(system), ())


def count_beginning(system, beginning):
    """Return the number of the keeping rows that begin with the beginning."""
    _check_beginning(system, beginning)
    return _count(tree_of(system), beginning)


def nth_kept(system, index):
    """Return the keeping row with the index."""
    tree = tree_of(system)
    demand(is_integer(index, 0, _count(tree, ()) - 1), "index")
    return _nth(tree, system[0], (), index)


def index_of_kept(system, value):
    """Return the index of the value among the keeping rows, or None if it is none."""
    demand(is_system(system), "system")
    if not is_keeping_row(system, value):
        return None
    tree = tree_of(system)
    return sum(_count_ahead(tree, value, place) for place in range(len(value)))


def kept_rows(system, beginning, index, many):
    """Return the list of so many of the keeping rows that begin with the beginning, from the one with the index."""
    _check_beginning(system, beginning)
    demand(is_integer(index, 0, LARGEST_INDEX), "index")
    demand(is_integer(many, 0, MOST_ROWS), "many")
    tree = tree_of(system)
    end = min(index + many, _count(tree, beginning))
    return [_nth(tree, system[0], beginning, number) for number in range(index, end)]


def _check_beginning(system, beginning):
    demand(is_system(system), "system")
    demand(_are_different(beginning, system[0]), "beginning")


def _are_different(value, size):
    return isinstance(value, tuple) and are_below(value, size) and len(set(value)) == len(value)


def _count(tree, beginning):
    # There is no tree if no row keeps the system.
    return 0 if tree is None else _count_part(tree, beginning)


def _count_part(part, beginning):
    # The rows of a part that begin with some elements, at most as many as the part has.
    if beginning == ():
        return count_all(part)
    if is_element(part):
        return 1 if beginning == (part,) else 0
    word, children = part
    line = _freely_from(children, beginning[0]) if word == ANY else _turned_from(children, beginning[0])
    return 0 if line is None else _count_line(line, beginning)


def _freely_from(children, x):
    # The child with the element comes first, and behind it the others in any order; None if no child has it.
    for at, child in enumerate(children):
        if x in content(child):
            return [child, any_of(children[:at] + children[at + 1:])]
    return None


def _turned_from(children, x):
    # The children in the order in which the element is in the first one; None if it is at neither end.
    if x in content(children[0]):
        return children
    return children[::-1] if x in content(children[-1]) else None


def _count_line(line, beginning):
    # The parts stand one behind the other, so each of them has its own stretch of the beginning.
    found = 1
    start = 0
    for part in line:
        end = start + len(content(part))
        found = found * _count_part(part, beginning[start:end])
        start = end
    return found


def _count_next(tree, row, x):
    # The keeping rows that begin with the row as far as it goes, and have the element x behind it.
    return 0 if x in row else _count(tree, (*row, x))


def _count_ahead(tree, row, place):
    # The keeping rows that are the same ahead of the place, and have a lesser element there.
    return sum(_count_next(tree, row[:place], x) for x in range(row[place]))


def _nth(tree, size, beginning, index):
    row = beginning
    left = index
    while len(row) < size:
        x, left = _next_element(tree, row, left)
        row = (*row, x)
    return row


def _next_element(tree, row, index):
    # The next element of the row with the index, and the index among the rows that have this element there.
    # It is found before the elements end, as there are more rows than the index tells.
    x = 0
    left = index
    many = _count_next(tree, row, x)
    while left >= many:
        left = left - many
        x = x + 1
        many = _count_next(tree, row, x)
    return x, left
