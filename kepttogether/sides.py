"""Sides: numbers that tell for each set on which side of it every other element is to be."""

from kepttogether.checks import are_below, demand, is_integer, is_pair, is_tuple_of
from kepttogether.systems import is_row, is_system, keeps, spans

BEFORE = 1
BEHIND = -1
NEITHER = 0


def is_sides(system, value):
    """Tell whether the value is sides of the system."""
    demand(is_system(system), "system")
    size, sets = system
    if not is_tuple_of(value, len(sets)):
        return False
    return all(_are_numbers(numbers, chosen, size) for numbers, chosen in zip(value, sets))


def required(system, sides):
    """Return the required pairs, ascending."""
    _check_sides(system, sides)
    return _required(system, sides)


def contradiction(system, sides):
    """Return the first contradiction, or None if the sides are consistent."""
    _check_sides(system, sides)
    pairs = _required(system, sides)
    # The pairs ascend, so the first one with its reverse among them has its lesser element first.
    for x, y in pairs:
        if (y, x) in pairs:
            return ((x, y), _first_requiring(system, sides, (x, y)), _first_requiring(system, sides, (y, x)))
    return None


def circle(system, sides):
    """Return the first circle of three elements, or None if there is none."""
    _check_sides(system, sides)
    pairs = _required(system, sides)
    for x, y in pairs:
        for z in range(system[0]):
            if _is_round((x, y, z), pairs):
                return (x, y, z)
    return None


def respects(system, sides, row):
    """Tell whether the row has all required pairs."""
    _check_sides(system, sides)
    demand(is_row(row, system[0]), "row")
    return all(row.index(x) < row.index(y) for x, y in _required(system, sides))


def sides_of(system, row):
    """Return the sides of a row that keeps the system."""
    # Asking whether the row keeps the system refuses what is no system, and what is no row of it.
    demand(keeps(system, row), "row")
    return tuple(_numbers_of(span, row) for span in spans(system, row))


def shows_contradiction(system, sides, value):
    """Tell whether the value is evidence that the sides are contradictory."""
    _check_sides(system, sides)
    size, sets = system
    if not is_tuple_of(value, 3):
        return False
    pair, ahead, behind = value
    if not is_pair(pair, size) or not are_below((ahead, behind), len(sets)):
        return False
    x, y = pair
    return _requires(sets[ahead], sides[ahead], (x, y)) and _requires(sets[behind], sides[behind], (y, x))


def shows_circle(system, sides, value):
    """Tell whether the value is a circle."""
    _check_sides(system, sides)
    if not is_tuple_of(value, 3) or not are_below(value, system[0]):
        return False
    return _is_round(value, _required(system, sides))


def _check_sides(system, sides):
    demand(is_sides(system, sides), "sides")


def _are_numbers(numbers, chosen, size):
    if not is_tuple_of(numbers, size):
        return False
    return all(_is_number(numbers[x], x, chosen) for x in range(size))


def _is_number(number, x, chosen):
    on_no_side = chosen == () or x in chosen
    return is_integer(number, BEHIND, BEFORE) and (number == NEITHER) == on_no_side


def _requires(chosen, numbers, pair):
    x, y = pair
    return (numbers[x] == BEFORE and y in chosen) or (x in chosen and numbers[y] == BEHIND)


def _first_requiring(system, sides, pair):
    sets = system[1]
    for index in range(len(sets)):
        if _requires(sets[index], sides[index], pair):
            return index
    return None


def _required(system, sides):
    # No set requires a pair of an element and itself: the element is in the set or it is not.
    size = system[0]
    pairs = [(x, y) for x in range(size) for y in range(size)]
    return tuple(pair for pair in pairs if _first_requiring(system, sides, pair) is not None)


def _is_round(value, pairs):
    x, y, z = value
    return (x, y) in pairs and (y, z) in pairs and (z, x) in pairs


def _numbers_of(span, row):
    if span is None:
        return (NEITHER,) * len(row)
    return tuple(_number(row.index(x), span) for x in range(len(row)))


def _number(place, span):
    low, high = span
    if place < low:
        return BEFORE
    if place > high:
        return BEHIND
    return NEITHER
