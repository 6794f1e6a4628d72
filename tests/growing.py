"""Trees to try, and the plain words of the document about trees as code (points 63 to 71), apart from the package."""

from functools import lru_cache
from itertools import permutations, product
from math import factorial
from random import Random

from support import ends, is_number, is_right_chain, rows, stands_together


def partitions(members):
    """All ways to put the members into blocks, each once."""
    if not members:
        return [[]]
    first, rest = members[0], members[1:]
    found = []
    for blocks in partitions(rest):
        found.append([(first,)] + blocks)
        for at, block in enumerate(blocks):
            found.append(blocks[:at] + [(first,) + block] + blocks[at + 1:])
    return found


@lru_cache(None)
def trees_of(members):
    """The canonical trees of the members: with any children by their least elements, with turned ones in each order."""
    if len(members) == 1:
        return [members[0]]
    found = []
    for blocks in map(sorted, partitions(members)):
        if len(blocks) > 1:
            for children in product(*[trees_of(tuple(block)) for block in blocks]):
                found.append(("any", tuple(children)))
                if len(children) > 2:
                    orders = [order for order in permutations(children) if leaves(order[0]) < leaves(order[-1])]
                    found += [("turn", order) for order in orders]
    return found


def all_trees(size):
    return trees_of(tuple(range(size)))


def leaves(tree):
    """The ascending tuple of the elements of a tree."""
    return (tree,) if type(tree) is int else tuple(sorted(sum((leaves(child) for child in tree[1]), ())))


def inner_parts(tree):
    """The parts of the tree that are no elements."""
    return [] if type(tree) is int else [tree] + [part for child in tree[1] for part in inner_parts(child)]


@lru_cache(None)
def rows_of(tree):
    """Point 64: all rows of the tree, in ascending order."""
    if type(tree) is int:
        return ((tree,),)
    word, children = tree
    orders = permutations(children) if word == "any" else [children, children[::-1]]
    return tuple(sorted(sum(chosen, ()) for order in orders for chosen in product(*map(rows_of, order))))


def count_by_words(tree):
    """Point 64: a product over all parts."""
    many = 1
    for word, children in inner_parts(tree):
        many *= factorial(len(children)) if word == "any" else 2
    return many


def stirred(tree, draw):
    """A tree with the same rows, with children in another order where that changes nothing."""
    if type(tree) is int:
        return tree
    word, children = tree
    children = [stirred(child, draw) for child in children]
    if word == "any":
        draw.shuffle(children)
    elif draw.random() < 0.5:
        children = children[::-1]
    return word, tuple(children)


def drawn_tree(members, draw):
    """Any tree of the members."""
    if len(members) == 1:
        return members[0]
    members = list(members)
    draw.shuffle(members)
    cuts = sorted(draw.sample(range(1, len(members)), draw.randint(1, min(4, len(members) - 1))))
    blocks = [members[low:high] for low, high in zip([0] + cuts, cuts + [len(members)])]
    word = "any" if len(blocks) < 3 else draw.choice(["any", "turn"])
    return word, tuple(drawn_tree(block, draw) for block in blocks)


def drawn_trees(size, count, seed):
    draw = Random(f"{seed} {size}")
    return [drawn_tree(range(size), draw) for _ in range(count)]


def is_tree_by_words(value, size):
    """Point 63."""
    found = found_leaves(value)
    return found is not None and sorted(found) == list(range(size))


def found_leaves(value):
    if is_number(value, 0, 7):
        return [value]
    if type(value) is not tuple or len(value) != 2 or type(value[0]) is not str or type(value[1]) is not tuple:
        return None
    least = {"any": 2, "turn": 3}.get(value[0])
    if least is None or len(value[1]) < least:
        return None
    below = [found_leaves(child) for child in value[1]]
    return None if None in below else sum(below, [])


def is_canonical_by_words(tree):
    """Point 65."""
    for word, children in inner_parts(tree):
        least = [leaves(child)[0] for child in children]
        if word == "any" and least != sorted(least) or word == "turn" and least[0] > least[-1]:
            return False
    return True


@lru_cache(None)
def rows_together(size, chosen):
    """All rows of so many elements in which the set is together."""
    return frozenset(row for row in rows(size) if stands_together(chosen, row))


def fits_by_words(tree, chosen):
    """Point 66, its first sentence: together in all rows."""
    if len(leaves(tree)) > 5:
        return all(stands_together(chosen, row) for row in rows_of(tree))
    there = rows_together(len(leaves(tree)), chosen)
    return all(row in there for row in rows_of(tree))


def reduced_by_words(tree, chosen):
    """Point 67, by its rows (up to 5 elements)."""
    size = len(leaves(tree))
    there = rows_together(size, chosen)
    left = tuple(row for row in rows_of(tree) if row in there)
    return trees_by_rows(size)[left] if left else None


def told_by_words(tree):
    """Point 69."""
    found = {leaves(part) for part in inner_parts(tree)} - {leaves(tree)}
    for word, children in inner_parts(tree):
        if word == "turn":
            found |= {tuple(sorted(leaves(one) + leaves(other))) for one, other in zip(children, children[1:])}
    return sorted(found)


def asked_by_words(size, chosen):
    """Point 70: the pairs at which the chains for a told set begin and end."""
    return [
        ((x, z), (y, z)) for z in range(size) if z not in chosen for x, y in zip(chosen, chosen[1:])
    ]


def is_accepted_by_words(system, tree, grounds):
    """Point 71."""
    size, sets = system
    if not is_tree_by_words(tree, size) or not all(fits_by_words(tree, chosen) for chosen in sets):
        return False
    told = told_by_words(tree)
    if type(grounds) is not tuple or len(grounds) != len(told):
        return False
    for chosen, chains in zip(told, grounds):
        asked = asked_by_words(size, chosen)
        if type(chains) is not tuple or len(chains) != len(asked):
            return False
        if not all(is_right_chain(system, chain) and ends(chain) == both for chain, both in zip(chains, asked)):
            return False
    return True


@lru_cache(None)
def trees_by_rows(size):
    """For each set of rows that a tree has, its canonical tree (up to 5 elements)."""
    return {rows_of(tree): tree for tree in all_trees(size)}


def canonical_by_rows(tree):
    return trees_by_rows(len(leaves(tree)))[rows_of(tree)]


ALL_TREES = [tree for size in range(1, 6) for tree in all_trees(size)]
FEW_TREES = [tree for size in range(1, 5) for tree in all_trees(size)] + all_trees(5)[::12]
