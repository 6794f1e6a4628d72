"""The plain words of the document about texts as code (points 105 to 110), apart from the package."""

import re
from random import Random

from support import drawn_chain, subsets
from tokens import tokens_by_words

KINDS = ["system", "row", "chain"]
# Point 105, with n for a number and $ for the end.
PAIR = "n<n"
GRAMMARS = {
    "system": re.compile(r"n:((-|n+)(\|(-|n+))*)?\$"), "row": re.compile(r"n+\$"),
    "chain": re.compile(rf"{PAIR}(/n:{PAIR})*\$"),
}
# With one of these behind it each beginning of a text is a text.
ENDINGS = ["", "$", "n$", ":$", "n:$", "<n$", "n<n$", ":n<n$", "n:n<n$"]
TOLD = {"n": "a number", "$": "the end", **{sign: f'"{sign}"' for sign in ":|-</"}}
# The order in which it is told what can come.
ORDER = "n:|-</$"


def letters_of(tokens):
    return "".join({"number": "n", "end": "$"}.get(kind, characters) for kind, characters, _ in tokens)


def is_beginning(letters, kind):
    return any(GRAMMARS[kind].fullmatch(letters + ending) for ending in ENDINGS)


def can_come(letters, kind):
    """Point 106: the words of what can come behind these tokens, in their order."""
    return [TOLD[letter] for letter in ORDER if is_beginning(letters + letter, kind)]


def listed(words):
    return words[0] if len(words) == 1 else ", ".join(words[:-1]) + " or " + words[-1]


def first_of_grammar(tokens, kind):
    """The column and the words of the first token that cannot come at its place, or None."""
    letters = letters_of(tokens)
    for at, token in enumerate(tokens):
        if not is_beginning(letters[:at + 1], kind):
            return token[2], "expected " + listed(can_come(letters[:at], kind))
    return None


def problems_of_numbers(tokens, size, alike):
    """Points 107 and 108: the problems of elements, that are to be different ones, at their numbers."""
    found, seen = [], []
    for kind, characters, column in tokens:
        if kind == "number":
            if int(characters) >= size:
                found.append((column, "there is no such element"))
            elif int(characters) in seen:
                found.append((column, alike))
            seen.append(int(characters))
    return found


def read_by_words(kind, given, text):
    """What is read from the text, or a pair of the column and the words of the problem, behind a word that tells which.

    Of a row the size is given, of a chain the system.
    """
    tokens = tokens_by_words(text)
    if not isinstance(tokens, list):
        return "problem", tokens
    problem = first_of_grammar(tokens, kind)
    if problem is not None:
        return "problem", problem
    problems, value = {"system": system_of, "row": row_of, "chain": chain_of}[kind](tokens, given)
    return ("problem", min(problems, key=lambda one: one[0])) if problems else ("value", value)


def groups_of(tokens, sign):
    """The tokens between the signs; the end is none of them."""
    cuts = [at for at, token in enumerate(tokens) if token[1] == sign] + [len(tokens) - 1]
    return [tokens[low + 1:high] for low, high in zip([-1] + cuts, cuts)]


def system_of(tokens, _):
    size = int(tokens[0][1])
    problems = [] if 1 <= size <= 8 else [(tokens[0][2], "a size is from 1 to 8")]
    groups = groups_of(tokens[2:], "|") if len(tokens) > 3 else []
    if len(groups) > 8:
        problems.append((groups[8][0][2], "there are at most 8 sets"))
    for group in groups[:8]:
        problems += problems_of_numbers(group, size, "this element stands already")
    sets = [sorted(int(token[1]) for token in group if token[0] == "number") for group in groups]
    return problems, (size, tuple(tuple(chosen) for chosen in sets))


def row_of(tokens, size):
    problems = problems_of_numbers(tokens, size, "this element stands already")
    if not problems and len(tokens) - 1 < size:
        problems = [(tokens[-1][2], "an element is missing")]
    return problems, tuple(int(token[1]) for token in tokens[:-1])


def chain_of(tokens, system):
    groups = groups_of(tokens, "/")
    problems = []
    for number, group in enumerate(groups):
        if number > 100:
            problems.append((group[0][2], "there are at most 100 steps"))
        if number > 0 and int(group[0][1]) >= len(system[1]):
            problems.append((group[0][2], "there is no such set"))
        problems += problems_of_numbers(group[-3:], system[0], "a pair has two different elements")
    found = [[int(token[1]) for token in group if token[0] == "number"] for group in groups]
    return problems, (tuple(found[0]), tuple((index, (x, y)) for index, x, y in found[1:]))


def largest_systems(count, seed):
    """Systems of 8 elements with 8 sets, most of them large ones."""
    draw = Random(seed)
    found = [(8, (tuple(range(8)),) * 8), (8, ((),) * 8)]
    return found + [(8, tuple(draw.choice(subsets(8)[90:]) for _ in range(8))) for _ in range(count)]


def longest_chains(system, count, seed):
    """Chains of 100 steps, right ones and others."""
    draw = Random(seed)
    return [drawn_chain(system, 100, draw, False) for _ in range(count)] + [
        drawn_chain(system, 100, draw, True) for _ in range(count if any(system[1]) else 0)
    ]


def spaced(text, draw):
    """The text with other spaces around its tokens, as many as leave them as they are."""
    parts = re.findall("[0-9]+|[^ ]", text)
    found = " " * draw.randint(0, 2)
    for part, behind in zip(parts, parts[1:] + [""]):
        least = 1 if part.isdigit() and behind.isdigit() else 0
        found += part + " " * draw.choice([least, least, 1, 2])
    return found


def zeroed(text, draw):
    """The text with needless zeros ahead of its numbers."""
    return re.sub("[0-9]+", lambda number: "0" * draw.randint(0, 6 - len(number.group())) + number.group(), text)
