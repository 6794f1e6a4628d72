"""The plain words of the document about collections of sets as code (points 92 to 99), apart from the package."""

from itertools import combinations

from asking import kept_by
from support import does_keep, ends, is_right_chain, is_row_by_words


def all_collections(system):
    """All of them, those with fewer sets first, and among these the first ones first."""
    every = range(len(system[1]))
    return [chosen for many in range(len(system[1]) + 1) for chosen in combinations(every, many)]


def sets_of(system, collection):
    """A system with the sets of the collection alone: which numbers these have there does not matter to rows."""
    return system[0], tuple(system[1][index] for index in collection)


def rows_keeping(system, collection):
    return kept_by(sets_of(system, collection))


def less(collection, *indexes):
    return tuple(index for index in collection if index not in indexes)


def others(system, collection):
    return less(range(len(system[1])), *collection)


def can_be_left_out_by_rows(system, collection, index):
    """Point 93."""
    return rows_keeping(system, less(collection, index)) == rows_keeping(system, collection)


def is_base(system, collection):
    """Point 96."""
    return rows_keeping(system, collection) == kept_by(system) and not any(
        can_be_left_out_by_rows(system, collection, index) for index in collection
    )


def is_conflict(system, collection):
    """Point 97."""
    return not rows_keeping(system, collection) and all(
        rows_keeping(system, less(collection, index)) for index in collection
    )


def is_removal(system, collection):
    """Point 99."""
    rest = others(system, collection)
    return bool(rows_keeping(system, rest)) and not any(
        rows_keeping(system, tuple(sorted(rest + (index,)))) for index in collection
    )


def told_base_by_rows(system):
    left = tuple(range(len(system[1])))
    for index in left[::-1]:
        if can_be_left_out_by_rows(system, left, index):
            left = less(left, index)
    return left


def told_conflict_by_rows(system):
    left = tuple(range(len(system[1])))
    for index in left[::-1]:
        if not rows_keeping(system, less(left, index)):
            left = less(left, index)
    return left


def smallest(system, is_one):
    """The first one of those with the fewest sets."""
    found = [collection for collection in all_collections(system) if is_one(system, collection)]
    return min(found, key=lambda collection: (len(collection), collection))


def links_for(system, index):
    """Point 94: where the chains begin and end."""
    chosen = system[1][index]
    return [
        ((z, x), (z, y)) for z in range(system[0]) if z not in chosen for x, y in zip(chosen, chosen[1:])
    ]


def is_chain_by(system, collection, value):
    """Points 43 and 92: a right chain by the collection."""
    return is_right_chain(system, value) and all(index in collection for index, _ in value[1])


def is_grounds_by_words(system, collection, index, value):
    """Point 94."""
    links, rest = links_for(system, index), less(collection, index)
    return type(value) is tuple and len(value) == len(links) and all(
        is_chain_by(system, rest, chain) and ends(chain) == link for chain, link in zip(value, links)
    )


def is_refutation_by(system, collection, value):
    return is_chain_by(system, collection, value) and ends(value)[1] == value[0][::-1]


def keeps_sets(system, collection, value):
    return is_row_by_words(value, system[0]) and does_keep(sets_of(system, collection), value)


def is_conflict_grounds_by_words(system, collection, value):
    """Point 98."""
    if type(value) is not tuple or len(value) != 2 or not is_refutation_by(system, collection, value[0]):
        return False
    return type(value[1]) is tuple and len(value[1]) == len(collection) and all(
        keeps_sets(system, less(collection, index), row) for index, row in zip(collection, value[1])
    )


def is_removal_grounds_by_words(system, collection, value):
    """Point 99."""
    rest = others(system, collection)
    if type(value) is not tuple or len(value) != 2 or not keeps_sets(system, rest, value[0]):
        return False
    return type(value[1]) is tuple and len(value[1]) == len(collection) and all(
        is_refutation_by(system, rest + (index,), chain) for index, chain in zip(collection, value[1])
    )
