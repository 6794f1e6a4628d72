"""What several test files need: systems, rows and sides to try, and plain words of the document as code.

Everything here is written apart from the package, so that a fault of it does not hide itself.
"""

from functools import lru_cache
from itertools import combinations, permutations, product
from random import Random

# Values of all kinds that the document names (point 3), to be put where something else belongs.
ATOMS = [
    0, 1, 2, -1, 7, 8, 9, 10 ** 30, -10 ** 30, "", "a", "0", "01", True, False, None, (), [], (0,), [0], ((),), [[]],
]


def nested(depth):
    """The empty tuple in a tuple in a tuple, and so on."""
    value = ()
    for _ in range(depth):
        value = (value,)
    return value


def values_of_all_kinds():
    """Atoms, tuples and lists of some of them, and nested ones."""
    found = list(ATOMS)
    for one in ATOMS:
        found += [(one,), [one], ((one,),), ([one],), [(one,)]]
        for other in ATOMS:
            found += [(one, other), [one, other], (one, (other,)), (one, [other]), (one, ((other,),))]
            found += [((one, other),), (one, other, 0), ((one, other), 0, 1), (0, 1, one, other)]
    return found + [nested(50), [nested(50)], (3, nested(50))]


def spoiled(value):
    """The value with something else at one place, with one item less or more, or with a list for a tuple."""
    found = list(ATOMS)
    if isinstance(value, int):
        found += [value == 1, str(value), value + 1, value - 1, -value, (value,)]
    if isinstance(value, tuple):
        found += [list(value), value[::-1], (value,)] + [value + (atom,) for atom in ATOMS]
        for at in range(len(value)):
            found += [value[:at] + value[at + 1:], value[:at] + (value[at],) + value[at:]]
            found += [value[:at] + (other,) + value[at + 1:] for other in spoiled(value[at])]
    return found


def rows(size):
    return list(permutations(range(size)))


def subsets(size):
    return [chosen for many in range(size + 1) for chosen in combinations(range(size), many)]


def all_systems(size, many):
    return [(size, sets) for sets in product(subsets(size), repeat=many)]


def drawn_systems(count, least, most, sets, seed):
    """So many systems of least to most elements, with up to so many sets; always the same ones."""
    draw = Random(seed)
    found = []
    for _ in range(count):
        size = draw.randint(least, most)
        found.append((size, tuple(draw.choice(subsets(size)) for _ in range(draw.randint(0, sets)))))
    return found


EDGE_SYSTEMS = [
    (1, ()), (1, ((),)), (1, ((0,),)), (1, ((), (0,)) * 4),
    (2, ((0,), (1,), (0, 1), ())), (3, ((0, 1),) * 8), (3, ((0, 1), (1, 2), (0, 2))),
    (4, ((1, 2), (1, 2), (), (3,), (0, 1, 2, 3))), (5, ((0, 1, 2), (2, 3))),
    (5, ((0, 1, 2), (2, 3, 4))),
]
SMALL_SYSTEMS = EDGE_SYSTEMS + [
    system for size in (1, 2, 3) for many in (0, 1, 2) for system in all_systems(size, many)
] + drawn_systems(40, 4, 5, 3, "small")
LARGE_SYSTEMS = [
    (8, ()), (8, ((),) * 8), (8, (tuple(range(8)),) * 8), (8, tuple((x,) for x in range(8))),
    (8, tuple(tuple(range(x + 1)) for x in range(8))), (8, tuple((x, x + 1) for x in range(7)) + ((0, 7),)),
] + drawn_systems(20, 6, 8, 8, "large")


def stands_together(chosen, row):
    """Point 6: every element that stands between two elements of the set belongs to the set."""
    return all(
        row[middle] in chosen
        for left, middle, right in combinations(range(len(row)), 3)
        if row[left] in chosen and row[right] in chosen
    )


def does_keep(system, row):
    return all(stands_together(chosen, row) for chosen in system[1])


def keeping_rows(system):
    return [row for row in rows(system[0]) if does_keep(system, row)]


def is_number(value, low, high):
    return type(value) is int and low <= value <= high


def is_set_by_words(value, size):
    return type(value) is tuple and all(is_number(x, 0, size - 1) for x in value) and list(value) == sorted(set(value))


def is_system_by_words(value):
    return (
        type(value) is tuple and len(value) == 2 and is_number(value[0], 1, 8) and type(value[1]) is tuple
        and len(value[1]) <= 8 and all(is_set_by_words(chosen, value[0]) for chosen in value[1])
    )


def is_row_by_words(value, size):
    return (
        type(value) is tuple and all(is_number(x, 0, size - 1) for x in value) and sorted(value) == list(range(size))
    )


def numbers_for(chosen, size):
    """All the tuples of numbers that sides can have for the set (point 19)."""
    return list(product(*[(0,) if chosen == () or x in chosen else (1, -1) for x in range(size)]))


def is_sides_by_words(system, value):
    size, sets = system
    return (
        type(value) is tuple and len(value) == len(sets)
        and all(
            type(numbers) is tuple and all(type(number) is int for number in numbers)
            and numbers in numbers_for(chosen, size)
            for numbers, chosen in zip(value, sets)
        )
    )


def all_sides(system):
    size, sets = system
    return list(product(*[numbers_for(chosen, size) for chosen in sets]))


def drawn_sides(system, count, seed):
    """So many sides of the system; always the same ones."""
    draw = Random(seed)
    size, sets = system
    return [tuple(draw.choice(numbers_for(chosen, size)) for chosen in sets) for _ in range(count)]


def set_requires(chosen, numbers, pair):
    """Point 20 for one set."""
    x, y = pair
    return (x not in chosen and numbers[x] == 1 and y in chosen) or (
        x in chosen and y not in chosen and numbers[y] == -1
    )


def sets_requiring(system, sides, pair):
    return [at for at, chosen in enumerate(system[1]) if set_requires(chosen, sides[at], pair)]


def pairs(size):
    return list(permutations(range(size), 2))


def required_pairs(system, sides):
    return [pair for pair in pairs(system[0]) if sets_requiring(system, sides, pair)]


def are_consistent(system, sides):
    found = required_pairs(system, sides)
    return not any((y, x) in found for x, y in found)


def has_circle_of_any_length(size, found):
    """Tell whether the pairs lead from some element back to it, by however many of them."""
    left = set(range(size))
    while left:
        last = [x for x in left if not any(a == x and b in left for a, b in found)]
        if not last:
            return True
        left -= set(last)
    return False


def systems_and_sides():
    """Systems with many of their sides each: all of them, where these are few."""
    found = []
    for system in SMALL_SYSTEMS + all_systems(3, 3)[::5] + all_systems(4, 2)[::7]:
        free = sum(system[0] - len(chosen) for chosen in system[1] if chosen)
        found += [(system, sides) for sides in (all_sides(system) if free <= 6 else drawn_sides(system, 20, "sides"))]
    for system in LARGE_SYSTEMS:
        found += [(system, sides) for sides in drawn_sides(system, 3, "large sides")]
    return found


def leads(chosen, before, after):
    """Point 30: whether a step by the set leads from the one pair to the other."""
    (a, b), (c, d) = before, after
    first = a == c and a not in chosen and b != d and b in chosen and d in chosen
    second = b == d and b not in chosen and a != c and a in chosen and c in chosen
    return first or second


def linked_pairs(system):
    """Point 31: for each pair the set of all pairs linked to it, by joining what one step joins until it stays."""
    size, sets = system
    group = {pair: {pair} for pair in pairs(size)}
    for before in pairs(size):
        for after in pairs(size):
            if group[before] is not group[after] and any(leads(chosen, before, after) for chosen in sets):
                group[before] |= group[after]
                for pair in group[after]:
                    group[pair] = group[before]
    return group


@lru_cache(None)
def fewest_steps(system, pair):
    """For each pair linked to the pair the least number of steps to it, by trying all pairs again and again."""
    size, sets = system
    many = {pair: 0}
    for number in range(1, size * size):
        for after in pairs(size):
            if after not in many and any(
                before in many and many[before] == number - 1 and any(leads(chosen, before, after) for chosen in sets)
                for before in pairs(size)
            ):
                many[after] = number
    return many


def is_pair_by_words(value, size):
    return (
        type(value) is tuple and len(value) == 2 and all(is_number(x, 0, size - 1) for x in value)
        and value[0] != value[1]
    )


def is_chain_by_words(system, value):
    size, sets = system
    return (
        type(value) is tuple and len(value) == 2 and is_pair_by_words(value[0], size)
        and type(value[1]) is tuple and len(value[1]) <= 100
        and all(
            type(step) is tuple and len(step) == 2 and is_number(step[0], 0, len(sets) - 1)
            and is_pair_by_words(step[1], size)
            for step in value[1]
        )
    )


def ends(chain):
    """The pairs at which a chain begins and ends."""
    return chain[0], ([chain[0]] + [pair for _, pair in chain[1]])[-1]


def is_right_chain(system, value):
    """Points 41 and 42: a chain all of whose steps are steps by their sets."""
    if not is_chain_by_words(system, value):
        return False
    at = [value[0]] + [pair for _, pair in value[1]]
    return all(leads(system[1][index], at[place], after) for place, (index, after) in enumerate(value[1]))


def drawn_chain(system, count, draw, right):
    """A chain of so many steps: right ones, where that is asked and there are any, or whatever steps."""
    size, sets = system
    at = draw.choice(pairs(size))
    begin, steps = at, []
    while len(steps) < count:
        options = [
            (index, after) for index, chosen in enumerate(sets) for after in pairs(size)
            if not right or leads(chosen, at, after)
        ]
        if not options:
            break
        steps.append(draw.choice(options))
        at = steps[-1][1]
    return begin, tuple(steps)


def has(row, pair):
    """Point 6: whether the row has the pair."""
    return row.index(pair[0]) < row.index(pair[1])


def all_tournaments(size):
    found = product(*[((x, y), (y, x)) for x, y in combinations(range(size), 2)])
    return [tuple(sorted(chosen)) for chosen in found]


def drawn_tournaments(size, count, seed):
    draw = Random(seed)
    return [
        tuple(sorted(draw.choice([(x, y), (y, x)]) for x, y in combinations(range(size), 2))) for _ in range(count)
    ]


def tournament_of_row(row):
    return tuple(sorted(combinations(row, 2)))


def is_tournament_by_words(size, value):
    return (
        type(value) is tuple and all(is_pair_by_words(pair, size) for pair in value)
        and list(value) == sorted(set(value))
        and all(((x, y) in value) != ((y, x) in value) for x, y in combinations(range(size), 2))
    )
