"""Names, commands, and what a command makes of the sets of an editor.

These sets are a tuple of pairs: the name of a set, and the ascending tuple of the places of its elements
among the names of all elements.
"""

from kepttogether.systems import LARGEST_SIZE, MOST_SETS

LONGEST_NAME = 8
LETTERS = "abcdefghijklmnopqrstuvwxyz"
MOST_COMMANDS = 20
ADD = "add"
DROP = "drop"
PUT = "put"
TAKE = "take"


def are_names(value):
    """Tell whether the value is a tuple of 1 to 8 different names."""
    return _are_different_names(value) and 1 <= len(value) <= LARGEST_SIZE


def is_command(value, names):
    """Tell whether the value is a command with names of these elements."""
    if not isinstance(value, tuple) or len(value) < 2 or not _is_name(value[1]):
        return False
    word = value[0]
    told = value[2:]
    if word == DROP:
        return len(told) == 0
    if len(told) != 1:
        return False
    if word == ADD:
        return _are_different_names(told[0]) and all(x in names for x in told[0])
    return word in (PUT, TAKE) and told[0] in names


def is_journal(value, names):
    """Tell whether the value is a tuple of at most 20 commands with names of these elements."""
    return is_short(value) and all(is_command(command, names) for command in value)


def is_short(value):
    """Tell whether the value is a tuple of at most 20 items, as many as a journal can have."""
    return isinstance(value, tuple) and len(value) <= MOST_COMMANDS


def reason_against(sets, names, command):
    """Return the word that tells why the command is not possible, or None if it is."""
    word, name = command[:2]
    found = [chosen for other, chosen in sets if other == name]
    if word == ADD:
        if found:
            return "exists"
        return "many" if len(sets) == MOST_SETS else None
    if not found:
        return "missing"
    if word == DROP:
        return None
    inside = names.index(command[2]) in found[0]
    if word == PUT:
        return "there" if inside else None
    return None if inside else "not there"


def sets_behind(sets, names, command):
    """Return the sets behind the command, which is possible."""
    word, name = command[:2]
    if word == ADD:
        return (*sets, (name, tuple(sorted(names.index(x) for x in command[2]))))
    if word == DROP:
        return tuple(pair for pair in sets if pair[0] != name)
    place = names.index(command[2])
    return tuple((other, _changed(chosen, word, place) if other == name else chosen) for other, chosen in sets)


def _is_name(value):
    return isinstance(value, str) and 1 <= len(value) <= LONGEST_NAME and all(letter in LETTERS for letter in value)


def _are_different_names(value):
    return isinstance(value, tuple) and all(_is_name(x) for x in value) and len(set(value)) == len(value)


def _changed(chosen, word, place):
    if word == PUT:
        return tuple(sorted([*chosen, place]))
    return tuple(x for x in chosen if x != place)
