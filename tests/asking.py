"""The plain words of the document about properties as code (points 82 to 87), apart from the package."""

from functools import lru_cache
from itertools import permutations
from random import Random

from support import (
    does_keep, ends, has, is_number, is_pair_by_words, is_right_chain, is_row_by_words, is_set_by_words, keeping_rows,
    linked_pairs, pairs, stands_together, subsets,
)


def all_properties(size):
    found = [("equivalent", pair, other) for pair in pairs(size) for other in pairs(size)]
    found += [("together", chosen) for chosen in subsets(size)]
    found += [("between", *three) for three in permutations(range(size), 3)]
    return found + [("first", x) for x in range(size)]


def drawn_properties(size, count, seed):
    """So many properties, of each word as often as of the others, where there are any; always the same ones."""
    draw = Random(f"{seed} {size}")
    words = {}
    for asked in all_properties(size):
        words.setdefault(asked[0], []).append(asked)
    return [draw.choice(words[draw.choice(sorted(words))]) for _ in range(count)]


def is_property_by_words(value, size):
    """Point 82."""
    if type(value) is not tuple or value[:1] not in [("equivalent",), ("together",), ("between",), ("first",)]:
        return False
    word, *of = value
    if word == "equivalent":
        return len(of) == 2 and is_pair_by_words(of[0], size) and is_pair_by_words(of[1], size)
    if word == "together":
        return len(of) == 1 and is_set_by_words(of[0], size)
    many = 3 if word == "between" else 1
    return len(of) == many and all(is_number(x, 0, size - 1) for x in of) and len(set(of)) == many


def has_by_words(row, asked):
    """Point 82, by the places in the row."""
    word, *of = asked
    if word == "equivalent":
        return has(row, of[0]) == has(row, of[1])
    if word == "together":
        return stands_together(of[0], row)
    if word == "between":
        left, middle, right = sorted(of, key=row.index)
        return middle == of[1]
    return row.index(of[0]) == 0


@lru_cache(None)
def kept_by(system):
    return tuple(keeping_rows(system))


def told_by_rows(system, asked):
    """Point 83, going through all rows."""
    kept = [has_by_words(row, asked) for row in kept_by(system)]
    return "always" if all(kept) else "sometimes" if any(kept) else "never"


@lru_cache(None)
def links_of(system):
    return linked_pairs(system)


def told_by_links(system, asked):
    """Points 84 to 86."""
    linked = links_of(system)
    word, *of = asked
    if word == "between":
        of = [(of[0], of[1]), (of[1], of[2])]
    if word in ("equivalent", "between"):
        always, never = of[1] in linked[of[0]], of[1][::-1] in linked[of[0]]
    elif word == "together":
        without = [z for z in range(system[0]) if z not in of[0]]
        always = all((y, z) in linked[(x, z)] for x in of[0] for y in of[0] for z in without)
        more = links_of((system[0], system[1] + (of[0],)))
        never = any(pair[::-1] in more[pair] for pair in more)
    else:
        always = system[0] == 1
        never = any(
            (z, of[0]) in linked[(of[0], y)] for y in range(system[0]) for z in range(system[0]) if of[0] not in (y, z)
        )
    return "always" if always else "never" if never else "sometimes"


def links_asked(system, asked):
    """Point 87: where the chains begin and end that are asked for "always", in their order."""
    word, *of = asked
    if word == "equivalent":
        return [tuple(of)]
    if word == "between":
        return [((of[0], of[1]), (of[1], of[2]))]
    if word == "first":
        return []
    return [
        ((x, z), (y, z)) for z in range(system[0]) if z not in of[0] for x, y in zip(of[0], of[0][1:])
    ]


def is_evidence_by_words(system, asked, evidence):
    """Point 87."""
    if type(evidence) is not tuple or evidence[:1] not in [("always",), ("never",), ("sometimes",)]:
        return False
    if len(evidence) != (3 if evidence[0] == "sometimes" else 2):
        return False
    if evidence[0] == "sometimes":
        right = all(is_row_by_words(row, system[0]) and does_keep(system, row) for row in evidence[1:])
        return right and [has_by_words(row, asked) for row in evidence[1:]] == [True, False]
    if evidence[0] == "always":
        links, chains = links_asked(system, asked), evidence[1]
        if type(chains) is not tuple or len(chains) != len(links) or asked[0] == "first" and system[0] != 1:
            return False
        return all(is_right_chain(system, chain) and ends(chain) == link for chain, link in zip(chains, links))
    return is_chain_against(system, asked, evidence[1])


def is_chain_against(system, asked, chain):
    """Point 87: what stands behind "never"."""
    word, *of = asked
    more = (system[0], system[1] + (of[0],)) if word == "together" else system
    if not is_right_chain(more, chain):
        return False
    begin, end = ends(chain)
    if word == "together":
        return end == begin[::-1]
    if word == "first":
        return begin[0] == of[0] and end[1] == of[0]
    if word == "between":
        return begin == (of[0], of[1]) and end == (of[2], of[1])
    return begin == of[0] and end == of[1][::-1]
