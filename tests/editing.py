"""The plain words of the document about editors as code (points 114 to 120), apart from the package."""

from random import Random

from support import does_keep, is_right_chain

NAMES = ("elegy", "march", "waltz", "fugue", "polka", "tango", "mambo", "samba")
SET_NAMES = ["ada", "bob", "cyd", "dee", "eve", "fay", "gus", "hal", "ida"]


def is_name_by_words(value):
    return type(value) is str and 1 <= len(value) <= 8 and all("a" <= letter <= "z" for letter in value)


def are_different_by_words(value):
    return type(value) is tuple and all(is_name_by_words(x) for x in value) and len(set(value)) == len(value)


def is_command_by_words(names, value):
    """Point 115."""
    if type(value) is not tuple or value[:1] not in [("add",), ("drop",), ("put",), ("take",)]:
        return False
    if len(value) != (2 if value[0] == "drop" else 3) or not is_name_by_words(value[1]):
        return False
    if value[0] == "add":
        return are_different_by_words(value[2]) and set(value[2]) <= set(names)
    return value[0] == "drop" or type(value[2]) is str and value[2] in names


class Plain:
    """An editor that carries out all its commands again whenever it is asked."""

    def __init__(self, names):
        self.elements = names
        self.done = []

    def stock(self):
        """The sets: their names, each with the set of its elements, in their order."""
        found = {}
        for word, name, *more in self.done:
            if word == "add":
                found[name] = set(more[0])
            elif word == "drop":
                del found[name]
            elif word == "put":
                found[name].add(more[0])
            else:
                found[name].remove(more[0])
        return found

    def words_against(self, command):
        """Point 115: all words that apply, in their order."""
        word, name, *more = command
        found, stock = [], self.stock()
        if word == "add":
            found += ["exists"] * (name in stock) + ["many"] * (len(stock) == 8)
        else:
            found += ["missing"] * (name not in stock)
        if word == "put":
            found += ["there"] * (more[0] in stock.get(name, ()))
        if word == "take":
            found += ["not there"] * (more[0] not in stock.get(name, ()))
        return found

    def sets(self):
        stock = self.stock()
        return tuple((name, tuple(x for x in self.elements if x in stock[name])) for name in stock)

    def system(self):
        sets = [tuple(self.elements.index(x) for x in chosen) for _, chosen in self.sets()]
        return len(self.elements), tuple(sets)

    def turned(self, answer):
        """The answer with places for names; None where a name tells nothing, or the form is none."""
        names = {x: place for place, x in enumerate(self.elements)}
        indexes = {name: index for index, (name, _) in enumerate(self.sets())}

        def place(value, table=names):
            return table.get(value) if type(value) is str else None

        def pair(value):
            return tuple(place(x) for x in value) if type(value) is tuple else None

        if type(answer) is not tuple or len(answer) != 2 or answer[0] not in ("row", "chain"):
            return None
        if answer[0] == "row":
            return "row", pair(answer[1])
        if type(answer[1]) is not tuple or len(answer[1]) != 2 or type(answer[1][1]) is not tuple:
            return None
        begin, steps = answer[1]
        if not all(type(step) is tuple and len(step) == 2 for step in steps):
            return None
        return "chain", (pair(begin), tuple((place(step[0], indexes), pair(step[1])) for step in steps))

    def accepts(self, answer):
        """Point 118."""
        turned = self.turned(answer)
        if turned is None or turned[1] is None:
            return False
        word, value = turned
        system = self.system()
        if word == "row":
            right = None not in value and sorted(value) == list(range(system[0]))
            return right and does_keep(system, value)
        return is_right_chain(system, value) and (value[0], *[pair for _, pair in value[1]])[-1] == value[0][::-1]


def are_right_by_words(names, records):
    """Point 119."""
    if type(records) is not tuple or len(records) > 20:
        return False
    plain = Plain(names)
    for record in records:
        if type(record) is not tuple or len(record) != 2 or not is_command_by_words(names, record[0]):
            return False
        if plain.words_against(record[0]):
            return False
        plain.done.append(record[0])
        if not plain.accepts(record[1]):
            return False
    return True


def drawn_commands(names, count, seed):
    """So many commands: most of them possible, if they are carried out one after another as far as they are."""
    draw = Random(f"{seed} {names}")
    plain, found = Plain(names), []
    for _ in range(count):
        some = tuple(draw.sample(names, draw.randint(0, min(3, len(names)))))
        word = draw.choice(["add", "add", "add", "drop", "put", "put", "take"])
        there = list(plain.stock())
        name = draw.choice(SET_NAMES if word == "add" or not there or draw.random() < 0.2 else there)
        more = {"add": [some], "drop": [], "put": [draw.choice(names)], "take": [draw.choice(names)]}[word]
        found.append((word, name, *more))
        if not plain.words_against(found[-1]):
            plain.done.append(found[-1])
    return found


def possible_commands(names, count, seed):
    """Up to so many commands, each of which is possible behind those ahead of it."""
    plain = Plain(names)
    for command in drawn_commands(names, 4 * count, seed):
        if len(plain.done) < count and not plain.words_against(command):
            plain.done.append(command)
    return tuple(plain.done)
