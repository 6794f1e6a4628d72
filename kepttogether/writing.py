"""Writing the texts of systems, rows and chains."""

from kepttogether.checks import demand
from kepttogether.following import is_chain
from kepttogether.systems import is_some_row, is_system


def system_text(system):
    """Return the text of the system."""
    demand(is_system(system), "system")
    size, sets = system
    if sets == ():
        return f"{size}:"
    texts = " | ".join([_set_text(chosen) for chosen in sets])
    return f"{size}: {texts}"


def row_text(row):
    """Return the text of the row."""
    demand(is_some_row(row), "row")
    return _spaced(row)


def chain_text(system, chain):
    """Return the text of the chain for the system."""
    demand(is_system(system), "system")
    demand(is_chain(system, chain), "chain")
    pair, steps = chain
    return " / ".join([_pair_text(pair)] + [f"{index}: {_pair_text(after)}" for index, after in steps])


def _spaced(numbers):
    return " ".join([str(x) for x in numbers])


def _set_text(chosen):
    return "-" if chosen == () else _spaced(chosen)


def _pair_text(pair):
    x, y = pair
    return f"{x}<{y}"
