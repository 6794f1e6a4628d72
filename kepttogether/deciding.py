"""The tournament of consistent sides: an order for each two elements."""

from kepttogether.sides import contradiction, required


def tournament_of(system, sides):
    """Return the tournament of the sides, ascending, or None if they are not consistent."""
    # Asking for the contradiction refuses what is no system, and what are no sides of it.
    if contradiction(system, sides) is not None:
        return None
    size = system[0]
    pairs = required(system, sides)
    return tuple(sorted(_decided(x, y, pairs, size) for x in range(size) for y in range(x + 1, size)))


def _decided(x, y, pairs, size):
    # The lesser element is x: its pair is told where nothing speaks against it.
    if (x, y) in pairs:
        return (x, y)
    if (y, x) in pairs:
        return (y, x)
    if _leads_over(y, x, pairs, size) and not _leads_over(x, y, pairs, size):
        return (y, x)
    return (x, y)


def _leads_over(x, y, pairs, size):
    return any((x, z) in pairs and (z, y) in pairs for z in range(size))
