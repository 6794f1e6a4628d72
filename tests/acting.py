"""Editors to try, all that an editor tells, and answers with names."""

from kepttogether.editor import Editor
from editing import NAMES, SET_NAMES

THREE = ("elegy", "march", "waltz")
RING = [("add", "ada", ("elegy", "march")), ("add", "bob", ("march", "waltz")), ("add", "cyd", ("waltz", "elegy"))]


def told(editor):
    """All that an editor tells."""
    return (
        editor.names(), editor.sets(), editor.system(), editor.answer(), editor.journal(), editor.records(),
    )


def made(names, commands):
    editor = Editor(names)
    for command in commands:
        editor.act(command)
    return editor


def editor_of(system, sets=SET_NAMES, names=NAMES):
    """An editor with this system."""
    names = names[:system[0]]
    return made(names, [("add", sets[at], tuple(names[x] for x in chosen)) for at, chosen in enumerate(system[1])])


def named(editor, word, value):
    """The answer with names in place of the places."""
    names, sets = editor.names(), editor.sets()
    if word == "row":
        return "row", tuple(names[x] for x in value)
    (x, y), steps = value
    return "chain", ((names[x], names[y]), tuple((sets[at][0], (names[x], names[y])) for at, (x, y) in steps))


def renamed_once(value, names):
    """The value with another name at one place."""
    if type(value) is str:
        return names
    return [
        value[:at] + (other,) + value[at + 1:]
        for at in range(len(value)) for other in renamed_once(value[at], names)
    ]
