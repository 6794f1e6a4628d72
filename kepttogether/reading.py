"""Reading systems, rows and chains from texts."""

from kepttogether.checks import demand, is_integer
from kepttogether.errors import TextError
from kepttogether.following import MOST_STEPS
from kepttogether.grammars import CHAIN, KINDS, ROW, SYSTEM, place_behind, words_at
from kepttogether.scanning import NUMBER, is_text, scan
from kepttogether.systems import LARGEST_SIZE, MOST_SETS, is_system


def next_tokens(text, kind):
    """Return the list of what can come behind the tokens of the text, which begins a text of the kind."""
    demand(is_text(text), "text")
    demand(kind in KINDS, "kind")
    # The end of this text is not that of the whole one, of which it is the beginning.
    return words_at(place_behind(scan(text)[:-1], kind))


def read_system(text):
    """Return the system with this text."""
    tokens = _tokens_of(text, SYSTEM)
    size = _number(tokens[0])
    _require(1 <= size <= LARGEST_SIZE, tokens[0], f"a size is from 1 to {LARGEST_SIZE}")
    sets = []
    for place, group in enumerate(_parted(tokens[2:-1], "|")):
        _require(place < MOST_SETS, group[0], f"there are at most {MOST_SETS} sets")
        numbers = [token for token in group if token[0] == NUMBER]
        sets.append(tuple(sorted(_different(numbers, size))))
    return (size, tuple(sets))


def read_row(size, text):
    """Return the row of so many elements with this text."""
    demand(is_integer(size, 1, LARGEST_SIZE), "size")
    tokens = _tokens_of(text, ROW)
    row = _different(tokens[:-1], size)
    _require(len(row) == size, tokens[-1], "an element is missing")
    return tuple(row)


def read_chain(system, text):
    """Return the chain for the system with this text."""
    demand(is_system(system), "system")
    size, sets = system
    groups = _parted(_tokens_of(text, CHAIN)[:-1], "/")
    steps = []
    begin = _pair(groups[0], size)
    for place, group in enumerate(groups[1:]):
        _require(place < MOST_STEPS, group[0], f"there are at most {MOST_STEPS} steps")
        index = _number(group[0])
        _require(index < len(sets), group[0], "there is no such set")
        steps.append((index, _pair(group[2:], size)))
    return (begin, tuple(steps))


def _tokens_of(text, kind):
    tokens = scan(text)
    place_behind(tokens, kind)
    return tokens


def _parted(tokens, sign):
    # The groups of tokens between the signs; none if there are no tokens.
    groups = [[]]
    for token in tokens:
        if token[1] == sign:
            groups.append([])
        else:
            groups[-1].append(token)
    return groups if tokens else []


def _require(holds, token, words):
    if not holds:
        raise TextError(token[2], words)


def _number(token):
    return int(token[1])


def _element(token, size):
    x = _number(token)
    _require(x < size, token, "there is no such element")
    return x


def _different(tokens, size):
    found = []
    for token in tokens:
        x = _element(token, size)
        _require(x not in found, token, "this element stands already")
        found.append(x)
    return found


def _pair(tokens, size):
    # The sign stands between both elements.
    x = _element(tokens[0], size)
    y = _element(tokens[2], size)
    _require(x != y, tokens[2], "a pair has two different elements")
    return (x, y)
