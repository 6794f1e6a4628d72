"""Point 3, and what takes every value among editors and journals: True or False, and no error."""

import unittest

from kepttogether.editor import Editor
from kepttogether.journals import are_right
from editing import Plain, are_right_by_words
from judging import JudgeChecks
from support import nested, values_of_all_kinds

NAMES = ("a", "b", "c")
RING = (("add", "x", ("a", "b")), ("add", "y", ("b", "c")), ("add", "z", ("a", "c")))
CHAIN = (("a", "b"), (("y", ("a", "c")), ("x", ("b", "c")), ("z", ("b", "a"))))


def editor_and_plain(commands):
    editor, plain = Editor(NAMES), Plain(NAMES)
    for command in commands:
        editor.act(command)
        plain.done.append(command)
    return editor, plain


class EveryValue(JudgeChecks, unittest.TestCase):
    def test_accepts(self):
        for commands in ((), RING[:2], RING):
            editor, plain = editor_and_plain(commands)
            good = [("chain", CHAIN)] if len(commands) == 3 else [("row", NAMES), ("row", NAMES[::-1])]
            self.check_all(editor.accepts, plain.accepts, [*good, editor.answer()])
            # What stands behind the word is every value, too.
            for value in values_of_all_kinds():
                for tried in [("row", value), ("chain", value), ("chain", (("a", "b"), value)), ("row", (value,) * 3)]:
                    self.check(editor.accepts, plain.accepts, tried)
                for tried in [("chain", (value, CHAIN[1])), ("chain", (("a", "b"), (value,) + CHAIN[1][1:]))]:
                    self.check(editor.accepts, plain.accepts, tried)

    def test_are_right(self):
        for many in range(4):
            editor, _ = editor_and_plain(RING[:many])
            self.check_all(
                lambda value: are_right(NAMES, value), lambda value: are_right_by_words(NAMES, value),
                [editor.records()],
            )

    def test_are_right_with_every_value_as_a_record_a_command_and_an_answer(self):
        command, answer = RING[0], ("row", NAMES)
        for value in values_of_all_kinds():
            for tried in [
                (value,), ((value, answer),), ((command, value),), ((command, answer), value),
                (("add", "x", value), answer),
                ((("add", "x", value), answer),), ((("add", value, ()), answer),), (((value, "x", ()), answer),),
                ((command, ("row", value)),), ((command, ("chain", value)),), ((command, answer, value),),
                ((("add", "x", (value,)), answer),), ((command, answer), (("put", "x", value), answer)),
            ]:
                self.check(
                    lambda value: are_right(NAMES, value), lambda value: are_right_by_words(NAMES, value), tried,
                )

    def test_values_that_are_nested_too_deeply_to_be_looked_through(self):
        deep = nested(20000)
        editor, _ = editor_and_plain(RING)
        values = [deep, [deep], ("row", deep), ("chain", deep), (deep, deep), ("row", (deep,) * 3)]
        values += [("row", ("a", "b", deep)), ("chain", ((deep, "b"), CHAIN[1]))]
        values += [("chain", (deep, ())), ("chain", (("a", "b"), deep)), ("chain", (("a", "b"), (deep,)))]
        values += [("chain", (("a", "b"), ((deep, ("a", "c")),))), ("chain", (("a", "b"), (("y", deep),)))]
        values += [("chain", (("a", deep), CHAIN[1])), ("chain", (("a", "b"), (("y", (deep, "c")),)))]
        for value in values:
            self.assertIs(editor.accepts(value), False)
            self.assertIs(are_right(NAMES, value), False)
            self.assertIs(are_right(NAMES, (value,)), False)
            self.assertIs(are_right(NAMES, ((RING[0], value),)), False)
            self.assertIs(are_right(NAMES, ((value, ("row", NAMES)),)), False)
            self.assertIs(are_right(NAMES, ((("add", "x", value), ("row", NAMES)),)), False)
            self.assertIs(are_right(NAMES, ((("add", value, ()), ("row", NAMES)),)), False)

    def test_numbers_are_no_names(self):
        editor, _ = editor_and_plain(RING[:2])
        for value in [(0, 1, 2), (False, True, 2), ("a", "b", 2), ("0", "1", "2"), ["a", "b", "c"], "abc", ("ab", "c")]:
            self.assertIs(editor.accepts(("row", value)), False)

    def test_long_values(self):
        many = tuple(("y", ("a", "bc"[place % 2])) for place in range(10 ** 5))
        editor, _ = editor_and_plain(RING)
        self.assertIs(editor.accepts(("chain", (("a", "b"), many))), False)
        self.assertIs(editor.accepts(("row", ("a",) * 10 ** 5)), False)
        self.assertIs(are_right(NAMES, many), False)
        self.assertIs(are_right(NAMES, ((RING[0], ("row", NAMES)),) * 10 ** 5), False)


class TheWordsAsCode(unittest.TestCase):
    """The references of this file are worth something only if they tell right from wrong themselves."""

    def test_references(self):
        _, plain = editor_and_plain(RING)
        self.assertIs(plain.accepts(("chain", CHAIN)), True)
        self.assertIs(plain.accepts(("chain", (CHAIN[0], CHAIN[1][:2]))), False)
        self.assertIs(plain.accepts(("row", NAMES)), False)
        self.assertIs(are_right_by_words(NAMES, ((RING[0], ("row", NAMES)),)), True)
        self.assertIs(are_right_by_words(NAMES, ((RING[0], ("row", ("a", "c", "b"))),)), False)
        self.assertIs(are_right_by_words(NAMES, ((RING[0], ("row", NAMES)), (RING[0], ("row", NAMES)))), False)


if __name__ == "__main__":
    unittest.main()
