"""Answers about a system: a row that keeps it, or a chain that shows that there is none."""

from kepttogether.chains import accepts_refutation, refutation
from kepttogether.checks import demand, is_tuple_of
from kepttogether.deciding import tournament_of
from kepttogether.links import listed_classes
from kepttogether.systems import is_keeping_row, is_system
from kepttogether.tournaments import row_of

ROW = "row"
CHAIN = "chain"


def row_of_sides(system, sides):
    """Return the row of the tournament of the sides, or None if they are not consistent."""
    # Asking for the tournament refuses what is no system, and what are no sides of it.
    tournament = tournament_of(system, sides)
    if tournament is None:
        return None
    return row_of(system[0], tournament)


def solve(system):
    """Return a row that keeps the system or, if there is none, a refutation, each behind the word that tells which."""
    classes = listed_classes(system)
    if classes is None:
        return (CHAIN, refutation(system))
    tournament = tuple(sorted(pair for linked in classes for pair in linked))
    return (ROW, row_of(system[0], tournament))


def accepts(system, answer):
    """Tell whether the answer is a row that keeps the system, or a refutation."""
    demand(is_system(system), "system")
    if not is_tuple_of(answer, 2):
        return False
    word, value = answer
    if word == ROW:
        return is_keeping_row(system, value)
    return word == CHAIN and accepts_refutation(system, value)
