"""The plain words of the document about tokens as code (points 103 and 104), and texts to try."""

import re
from random import Random

SIGNS = [":", "|", "-", "<", "/"]
# Characters that no token has: letters, other signs, tabs, and those that are not ASCII, among them digits that
# int() takes and digits that it does not take, blanks, and a minus sign.
NO_TOKENS = ["a", "Z", "_", "+", ">", ",", ".", ";", "\\", "(", "\t", "\r", "\x00", "\x0b", "\x7f"] + [
    "\u00e9", "\u0663", "\u00b2", "\u00bd", "\uff11", "\U0001d7ce", "\u00a0", "\u2003", "\u2028",
    "\ufeff", "\u2212", "\U0001f600",
]


def tokens_by_words(text):
    """The tokens of the text, or the column and the words of the first problem of a token."""
    found, at = [], 0
    while at < len(text):
        number = re.compile("[0-9]+").match(text, at)
        if text[at] == " ":
            at += 1
        elif number and len(number.group()) > 6:
            return at + 1, "a number has at most 6 digits"
        elif number:
            found.append(("number", number.group(), at + 1))
            at = number.end()
        elif text[at] in SIGNS:
            found.append(("sign", text[at], at + 1))
            at += 1
        else:
            return at + 1, "no token begins here"
    return found + [("end", "", len(text) + 1)]


def drawn_texts(count, characters, seed):
    draw = Random(seed)
    return ["".join(draw.choice(characters) for _ in range(draw.randint(0, 14))) for _ in range(count)]
