"""Points 7, 112 and 123: what reading, writing, editors and journals refuse, and in which order."""

import unittest

from kepttogether.editor import Editor
from kepttogether.errors import BadValue, NotPossible, TextError, TogetherError, TooLarge
from kepttogether.journals import are_right, replayed
from kepttogether.reading import next_tokens, read_chain, read_row, read_system
from kepttogether.writing import chain_text, row_text, system_text
from refusing import A_CHAIN, A_ROW, NO_TUPLES, THE_SYSTEM, WRONG_SYSTEMS, WRONG_TEXTS, RefusalChecks

NAMES = ("elegy", "march", "waltz")
NO_NAMES = [
    None, True, False, 0, -1, "", (), [], ["a"], ("a",), "Elegy", "ELEGY", "elegy ", " elegy", "ele gy",
    "elegyelegy", "abcdefghi", "el3gy", "3", "e_g", "e-g", "el\u00e9gy", "\u00df", "\u0430", "a\n", "\uff41",
    "\u00aa", b"elegy",
]
WRONG_NAMES = NO_TUPLES + [(name,) for name in NO_NAMES] + [("a", name) for name in NO_NAMES] + [
    (), ("a", "a"), ("a", "b", "a"), tuple("abcdefghi"), ["a", "b"], (("a", "b"),), "abc", {"a": 1},
]
OTHERS = ["polka", "ada", "e", "elegyy"]
WRONG_COMMANDS = NO_TUPLES + [
    (), ("add",), ("drop",), ("put",), ("take",), "drop", ["drop", "ada"], ("Drop", "ada"), ("undo", "ada"), ("undo",),
    (None, "ada"), (("drop",), "ada"), ("", "ada"), ("drop", "ada", ()), ("drop", "ada", "elegy"), ("add", "ada"),
    ("add", "ada", (), ()), ("add", "ada", None), ("add", "ada", "elegy"), ("add", "ada", []),
    ("add", "ada", ["elegy"]), ("add", "ada", ("elegy", "elegy")), ("add", "ada", ("elegy", "march", "elegy")),
    ("add", "ada", (0,)), ("add", "ada", (("elegy",),)), ("add", "ada", NAMES + ("elegy",)), ("add", "ada", (True,)),
    ("put", "ada"),
    ("put", "ada", "elegy", "march"), ("put", "ada", ("elegy",)), ("put", "ada", 0), ("take", "ada"),
    ("take", "ada", "elegy", "march"), ("take", "ada", ("elegy",)), ("take", "ada", None), ("take", "ada", []),
] + [("drop", name) for name in NO_NAMES] + [
    (word, name, more) for word, more in [("add", ()), ("put", "elegy"), ("take", "elegy")] for name in NO_NAMES
] + [(word, "ada", name) for word in ("put", "take") for name in NO_NAMES + OTHERS] + [
    ("add", "ada", ("march", name)) for name in NO_NAMES + OTHERS
]
COMMAND = ("add", "ada", ("waltz", "elegy"))
WRONG_JOURNALS = NO_TUPLES + [
    [COMMAND], COMMAND, (COMMAND, None), ((COMMAND,),), (list(COMMAND),), (COMMAND, ["drop", "ada"]),
    (COMMAND, ("drop", "ada")) * 10 + (COMMAND,), (COMMAND,) * 21, (("drop", "ada"),) * 21,
] + [(command,) for command in WRONG_COMMANDS[::3]] + [(COMMAND, command) for command in WRONG_COMMANDS[::3]]
WRONG_SIZES = [None, True, False, 0, 9, -1, 10 ** 30, "", "4", (), (4,), [], [4]]
WRONG_KINDS = [
    None, True, 0, "", "System", "systems", "rows", "pair", "set", " row", "row ", "behind a pair", "in a row", "end",
    ("row",), ["row"], [], (), b"row",
]


def made(names):
    """A new editor, by its names; all that it tells."""
    editor = Editor(names)
    return editor.names(), editor.sets(), editor.journal()


def acting(command):
    """Let an editor carry out the command."""
    editor = Editor(NAMES)
    return editor.act(command), editor.sets()


def replaying(names, journal):
    """Replay the journal; what the editor tells."""
    return replayed(names, journal).records()


A_TEXT = ("text", "0", WRONG_TEXTS)
FUNCTIONS = [
    (next_tokens, ("text", "4", WRONG_TEXTS), ("kind", "system", WRONG_KINDS)),
    (read_system, ("text", "4: 0 1", WRONG_TEXTS)),
    (read_row, ("size", 1, WRONG_SIZES), A_TEXT),
    (read_chain, THE_SYSTEM, ("text", "0<1 / 0: 2<1", WRONG_TEXTS)),
    (system_text, THE_SYSTEM),
    (row_text, A_ROW),
    (chain_text, THE_SYSTEM, A_CHAIN),
    (made, ("names", NAMES, WRONG_NAMES)),
    (acting, ("command", COMMAND, WRONG_COMMANDS)),
    (replaying, ("names", NAMES, WRONG_NAMES), ("journal", (COMMAND,), WRONG_JOURNALS)),
    (are_right, ("names", NAMES, WRONG_NAMES), ("records", None, [])),
]


class Refusals(RefusalChecks, unittest.TestCase):
    functions = FUNCTIONS

    def test_wrong_arguments_by_their_names(self):
        for call, name in [
            (lambda: Editor(names=()), "names"), (lambda: Editor(NAMES).act(command=()), "command"),
            (lambda: replayed(names=(), journal=()), "names"), (lambda: replayed(names=NAMES, journal=None), "journal"),
            (lambda: are_right(names=None, records=()), "names"),
        ]:
            with self.assertRaises(BadValue) as caught:
                call()
            self.assertEqual(caught.exception.name, name)

    def test_wrong_arguments_come_before_problems_of_texts(self):
        for text in ("", "a", "1234567", "::", "9", "0 0"):
            for size in WRONG_SIZES:
                self.check_refused(read_row, [size, text], "size")
            for system in WRONG_SYSTEMS:
                self.check_refused(read_chain, [system, text], "system")
            for kind in WRONG_KINDS:
                self.check_refused(next_tokens, [text, kind], "kind")
        for kind in WRONG_KINDS:
            self.check_refused(next_tokens, ["a" * 1001, kind], "text")
            self.check_refused(next_tokens, ["a\n", kind], "text")

    def test_problems_of_texts_are_no_wrong_arguments(self):
        for function, given in [
            (next_tokens, ["a", "row"]), (next_tokens, ["0 :", "row"]), (read_system, ["9:"]), (read_system, [""]),
            (read_row, [1, "1"]), (read_row, [2, "0"]), (read_chain, [(4, ()), "0<1/0:0<1"]),
            (read_chain, [(1, ()), ""]),
        ]:
            with self.assertRaises(TextError) as caught:
                function(*given)
            self.assertIsInstance(caught.exception, TogetherError)
            self.assertIsInstance(caught.exception, ValueError)
            self.assertNotIsInstance(caught.exception, (BadValue, NotPossible, TooLarge))

    def test_texts_of_1000_characters_and_of_1001(self):
        for function, given in [
            (read_system, []), (read_row, [1]), (read_chain, [(2, ())]),
        ]:
            good = {read_system: "1:", read_row: "0", read_chain: "0<1"}[function]
            self.assertEqual(function(*given, good.ljust(1000)), function(*given, good))
            self.check_refused(function, [*given, good.ljust(1001)], "text")
            self.check_refused(function, [*given, "a" * 1001], "text")
        self.assertEqual(next_tokens("0" + " " * 999, "row"), ["a number", "the end"])
        self.check_refused(next_tokens, ["0" + " " * 1000, "row"], "text")

    def test_rows_of_1_and_8_elements(self):
        self.assertEqual(row_text((0,)), "0")
        self.assertEqual(row_text((7, 6, 5, 4, 3, 2, 1, 0)), "7 6 5 4 3 2 1 0")
        self.check_refused(row_text, [(8, 7, 6, 5, 4, 3, 2, 1, 0)], "row")
        self.check_refused(row_text, [()], "row")

    def test_chains_of_100_steps_and_of_101(self):
        system, step = (3, ((1, 2),)), (0, (0, 1))
        self.assertEqual(len(chain_text(system, ((0, 1), (step,) * 100))), 903)
        self.check_refused(chain_text, [system, ((0, 1), (step,) * 101)], "chain")
        self.check_refused(chain_text, [(3, ()), ((0, 1), (step,))], "chain")

    def test_one_name_eight_and_nine(self):
        self.assertEqual(Editor(("a",)).system(), (1, ()))
        self.assertEqual(Editor(tuple("abcdefgh")).system(), (8, ()))
        self.check_refused(made, [tuple("abcdefghi")], "names")
        self.check_refused(made, [()], "names")

    def test_a_refused_command_changes_nothing(self):
        editor = Editor(NAMES)
        editor.act(COMMAND)
        before = editor.names(), editor.sets(), editor.journal(), editor.records()
        for command in WRONG_COMMANDS:
            with self.assertRaises(BadValue) as caught:
                editor.act(command)
            self.assertEqual(caught.exception.name, "command")
            self.assertEqual((editor.names(), editor.sets(), editor.journal(), editor.records()), before)
        self.assertEqual(editor.undo(), COMMAND)

    def test_a_wrong_command_comes_before_what_is_not_possible_and_before_too_many(self):
        editor = Editor(NAMES)
        for _ in range(10):
            editor.act(COMMAND)
            editor.act(("drop", "ada"))
        for command in [("drop", "Ada"), ("put", "ada", "polka"), ("take", "bob", "x"), ("add", "ada", ("x",)), None]:
            with self.assertRaises(BadValue):
                editor.act(command)
        with self.assertRaises(NotPossible) as caught:
            editor.act(("drop", "ada"))
        self.assertEqual(caught.exception.why, "missing")
        with self.assertRaises(TooLarge) as caught:
            editor.act(COMMAND)
        self.assertEqual(caught.exception.what, "commands")

    def test_a_wrong_journal_comes_before_what_is_not_possible(self):
        for journal in [(("drop", "ada"), None), (("drop", "ada"), ("drop", "Ada")), (("drop", "ada"),) * 21]:
            self.check_refused(replaying, [NAMES, journal], "journal")
        with self.assertRaises(NotPossible) as caught:
            replaying(NAMES, (("drop", "ada"),) * 20)
        self.assertEqual(caught.exception.why, "missing")

    def test_commands_with_elements_of_other_names(self):
        for command in [("add", "ada", ("polka",)), ("put", "ada", "polka"), ("take", "ada", "polka")]:
            self.check_refused(acting, [command], "command")
            self.check_refused(replaying, [NAMES, (command,)], "journal")
            self.assertIs(are_right(NAMES, ((command, ("row", NAMES)),)), False)

    def test_names_of_sets_can_be_any_names(self):
        for name in ("a", "abcdefgh", "elegy", "polka", "add", "row", "zzzzzzzz"):
            self.assertEqual(acting(("add", name, ())), (1, ((name, ()),)))


if __name__ == "__main__":
    unittest.main()
