"""The grammars of texts: which tokens can come where."""

from kepttogether.errors import TextError
from kepttogether.scanning import END, NUMBER, SIGN

SYSTEM = "system"
ROW = "row"
CHAIN = "chain"
KINDS = ("system", "row", "chain")

# The places in texts: at each of them the tokens that can come there, each with the place behind it. The tokens
# stand in the order in which they are told. A text of a kind begins at the place with the name of the kind.
PLACES = {
    "system": (("number", "behind the size"),),
    "behind the size": ((":", "ahead of the first set"),),
    "ahead of the first set": (("number", "in a set"), ("-", "behind an empty set"), ("end", "")),
    "in a set": (("number", "in a set"), ("|", "ahead of a further set"), ("end", "")),
    "behind an empty set": (("|", "ahead of a further set"), ("end", "")),
    "ahead of a further set": (("number", "in a set"), ("-", "behind an empty set")),
    "row": (("number", "in a row"),),
    "in a row": (("number", "in a row"), ("end", "")),
    "chain": (("number", "in a pair"),),
    "in a pair": (("<", "ahead of the second element"),),
    "ahead of the second element": (("number", "behind a pair"),),
    "behind a pair": (("/", "ahead of an index"), ("end", "")),
    "ahead of an index": (("number", "behind an index"),),
    "behind an index": ((":", "chain"),),
}


def place_behind(tokens, kind):
    """Return the place behind the tokens, which begin a text of the kind; the first one that cannot come is refused."""
    place = kind
    for token_kind, characters, column in tokens:
        token = characters if token_kind == SIGN else token_kind
        further = {one: behind for one, behind in PLACES[place]}
        if token not in further:
            raise TextError(column, f"expected {_listed(words_at(place))}")
        place = further[token]
    return place


def words_at(place):
    """Return the list of the words that tell what can come at the place."""
    return [_word_of(option[0]) for option in PLACES[place]]


def _word_of(token):
    if token == NUMBER:
        return "a number"
    return "the end" if token == END else f'"{token}"'


def _listed(words):
    if len(words) == 1:
        return words[0]
    ahead = ", ".join(words[:-1])
    return f"{ahead} or {words[-1]}"
