"""Answers about the sets of an editor, which tell elements and sets by their names."""

from kepttogether.checks import is_tuple_of
from kepttogether.solving import CHAIN, ROW, accepts, solve


def system_of(sets, names):
    """Return the system of the sets, in which places stand for names."""
    return (len(names), tuple(named[1] for named in sets))


def named_answer(sets, names):
    """Return the answer about the system of the sets, with names."""
    word, found = solve(system_of(sets, names))
    if word == ROW:
        return (ROW, _names_at(found, names))
    pair, steps = found
    named = tuple((sets[index][0], _names_at(after, names)) for index, after in steps)
    return (CHAIN, (_names_at(pair, names), named))


def accepts_named(sets, names, answer):
    """Tell whether the answer is accepted when its names are turned into places."""
    if not is_tuple_of(answer, 2):
        return False
    word, value = answer
    # The judge refuses what has no place: None stands there instead.
    turned = _places_of(value, names) if word == ROW else _chain_with_places(value, sets, names)
    return accepts(system_of(sets, names), (word, turned))


def _names_at(places, names):
    return tuple(names[place] for place in places)


def _place_of(value, names):
    return names.index(value) if value in names else None


def _places_of(value, names):
    return tuple(_place_of(x, names) for x in value) if isinstance(value, tuple) else None


def _chain_with_places(value, sets, names):
    if not is_tuple_of(value, 2) or not isinstance(value[1], tuple):
        return None
    names_of_sets = tuple(named[0] for named in sets)
    pair, steps = value
    return (_places_of(pair, names), tuple(_step_with_places(step, names_of_sets, names) for step in steps))


def _step_with_places(value, names_of_sets, names):
    if not is_tuple_of(value, 2):
        return None
    name, pair = value
    return (_place_of(name, names_of_sets), _places_of(pair, names))
