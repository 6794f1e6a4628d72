"""Journals and records of editors: carrying them out again, and judging them."""

from kepttogether.checks import demand, is_tuple_of
from kepttogether.commands import are_names, is_journal, is_short
from kepttogether.editor import Editor
from kepttogether.errors import TogetherError


def replayed(names, journal):
    """Return an editor that has carried out the commands of the journal."""
    demand(are_names(names), "names")
    demand(is_journal(journal, names), "journal")
    editor = Editor(names)
    for command in journal:
        editor.act(command)
    return editor


def are_right(names, records):
    """Tell whether each command of the records is possible, and each answer is accepted behind its command."""
    editor = Editor(names)
    if not is_short(records):
        return False
    for record in records:
        if not _holds_next(editor, record):
            return False
    return True


def _holds_next(editor, record):
    if not is_tuple_of(record, 2):
        return False
    command, answer = record
    try:
        editor.act(command)
    except TogetherError:
        return False
    return editor.accepts(answer)
