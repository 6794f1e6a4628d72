"""Texts, and the tokens that they consist of."""

from kepttogether.checks import demand
from kepttogether.errors import TextError

LONGEST_TEXT = 1000
MOST_DIGITS = 6
BLANK = " "
DIGITS = "0123456789"
SIGNS = (":", "|", "-", "<", "/")
NUMBER = "number"
SIGN = "sign"
END = "end"


def scan(text):
    """Return the list of the tokens of the text, the end being the last one."""
    demand(is_text(text), "text")
    tokens = []
    at = 0
    while at < len(text):
        end = _end_of_token(text, at)
        if text[at] != BLANK:
            tokens.append(_token(text[at:end], at + 1))
        at = end
    tokens.append((END, "", len(text) + 1))
    return tokens


def is_text(value):
    """Tell whether the value is a string that is short enough, without newlines."""
    return isinstance(value, str) and len(value) <= LONGEST_TEXT and "\n" not in value


def _end_of_token(text, at):
    # Every other token, and a blank, is one character long.
    end = at + 1
    if text[at] in DIGITS:
        while end < len(text) and text[end] in DIGITS:
            end += 1
    return end


def _token(characters, column):
    if characters in SIGNS:
        return (SIGN, characters, column)
    if characters[0] not in DIGITS:
        raise TextError(column, "no token begins here")
    if len(characters) > MOST_DIGITS:
        raise TextError(column, f"a number has at most {MOST_DIGITS} digits")
    return (NUMBER, characters, column)
