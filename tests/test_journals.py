"""Points 116, 119 and 120: replaying journals, and judging records."""

import unittest
from itertools import product
from random import Random

from kepttogether.editor import Editor
from kepttogether.errors import BadValue, NotPossible, TogetherError, TooLarge
from kepttogether.journals import are_right, replayed
from acting import RING, THREE, made, named, renamed_once, told
from editing import NAMES, SET_NAMES, Plain, are_right_by_words, drawn_commands, possible_commands
from support import keeping_rows, rows, spoiled


class Replaying(unittest.TestCase):
    """Point 116."""

    def test_an_editor_tells_what_its_journal_tells(self):
        for names, number in product([NAMES[:1], NAMES[:3], NAMES[:5], NAMES], range(12)):
            journal = possible_commands(names, 20, f"replayed {number}")
            found = replayed(names, journal)
            self.assertIs(type(found), Editor)
            self.assertEqual(told(found), told(made(names, journal)))
            self.assertEqual(found.journal(), journal)
            again = replayed(found.names(), found.journal())
            self.assertEqual(told(again), told(found))
            self.assertEqual(again.undo(), journal[-1] if journal else None)
            self.assertEqual(again.journal(), journal[:-1])

    def test_the_replayed_editor_is_another_one(self):
        editor = made(THREE, RING)
        other = replayed(editor.names(), editor.journal())
        other.undo()
        self.assertEqual(editor.journal(), tuple(RING))
        self.assertEqual(other.journal(), tuple(RING[:2]))

    def test_journals_of_no_command_and_of_20(self):
        self.assertEqual(told(replayed(THREE, ())), told(Editor(THREE)))
        commands = (("add", "ada", ()), ("put", "ada", "march"), ("take", "ada", "march"), ("drop", "ada")) * 5
        editor = replayed(THREE, commands)
        self.assertEqual(editor.journal(), commands)
        with self.assertRaises(TooLarge) as caught:
            editor.act(("add", "ada", ()))
        self.assertEqual(caught.exception.what, "commands")
        with self.assertRaises(BadValue) as caught:
            replayed(THREE, commands + commands[:1])
        self.assertEqual(caught.exception.name, "journal")

    def test_journals_that_are_not_possible(self):
        met = {}
        for number in range(80):
            names = NAMES[:1 + number % 5]
            journal = tuple(drawn_commands(names, 20, f"impossible {number}"))
            plain, why = Plain(names), None
            for command in journal:
                words = plain.words_against(command)
                if words:
                    why = words[0]
                    break
                plain.done.append(command)
            if why is None:
                self.assertEqual(replayed(names, journal).journal(), journal)
            else:
                with self.assertRaises(NotPossible) as caught:
                    replayed(names, journal)
                self.assertEqual(caught.exception.why, why)
                self.assertIsInstance(caught.exception, TogetherError)
            met[why] = met.get(why, 0) + 1
        self.assertLessEqual({"exists", "missing", "there", "not there"}, set(met))

    def test_each_word(self):
        for journal, why in [
            ((("add", "ada", ()), ("add", "ada", ())), "exists"), ((("drop", "ada"),), "missing"),
            (tuple(("add", name, ()) for name in SET_NAMES), "many"),
            (tuple(("add", name, ()) for name in SET_NAMES[:8] + SET_NAMES[:1]), "exists"),
            ((("put", "ada", "march"),), "missing"), ((("take", "ada", "march"),), "missing"),
            ((("add", "ada", ("march",)), ("put", "ada", "march")), "there"),
            ((("add", "ada", ("march",)), ("take", "ada", "waltz")), "not there"),
            # The first command that is not possible counts.
            ((("add", "ada", ()), ("take", "ada", "waltz"), ("add", "ada", ())), "not there"),
        ]:
            with self.assertRaises(NotPossible) as caught:
                replayed(THREE, journal)
            self.assertEqual(caught.exception.why, why)


class Records(unittest.TestCase):
    """Points 119 and 120."""

    def test_the_records_of_an_editor_are_right(self):
        met = {"row": 0, "chain": 0}
        for names, number in product([NAMES[:1], NAMES[:3], NAMES[:4], NAMES], range(12)):
            journal = possible_commands(names, 20, f"records {number}")
            editor = made(names, journal)
            records = editor.records()
            self.assertEqual(tuple(command for command, _ in records), journal)
            for many, (_, answer) in enumerate(records, 1):
                self.assertEqual(answer, made(names, journal[:many]).answer())
                met[answer[0]] += 1
            for many in (0, 1, len(records) // 2, len(records)):
                self.assertIs(are_right(names, records[:many]), True)
                self.assertIs(are_right_by_words(names, records[:many]), True)
        self.assertGreater(min(met.values()), 20)

    def test_changed_records(self):
        both = {True: 0, False: 0}
        for names, journal in [
            (THREE, RING), (("a", "b"), [("add", "q", ("a",)), ("put", "q", "b"), ("take", "q", "a"), ("drop", "q")]),
            (("a",), [("add", "a", ())]), (NAMES[:4], possible_commands(NAMES[:4], 5, "changed")),
        ]:
            records = made(names, journal).records()
            changed = spoiled(records)
            for other in changed[::1 if len(changed) < 6000 else 3] + renamed_once(records, [*names, "q", "zz"]):
                found = are_right(names, other)
                self.assertIs(type(found), bool)
                self.assertIs(found, are_right_by_words(names, other), (names, other))
                both[found] += 1
        # Some changed records are right still: a command with its elements in another sequence, or another row.
        self.assertGreater(min(both.values()), 10)

    def test_records_can_have_other_rows_and_chains(self):
        draw, met = Random("other answers"), 0
        for number in range(30):
            names = NAMES[:2 + number % 4]
            journal = possible_commands(names, 10, f"other {number}")
            editor, records = Editor(names), []
            for command in journal:
                editor.act(command)
                answer = editor.answer()
                if answer[0] == "row":
                    answer = named(editor, "row", draw.choice(keeping_rows(editor.system())))
                else:
                    begin, steps = answer[1]
                    back = (steps[0][0], begin)
                    answer = ("chain", (begin, steps[:1] + (back,) + steps))
                met += answer != editor.answer()
                records.append((command, answer))
            self.assertIs(are_right(names, tuple(records)), True, records)
        self.assertGreater(met, 50)

    def test_any_rows(self):
        met = {True: 0, False: 0}
        for number in range(12):
            names = NAMES[:2 + number % 3]
            editor = made(names, possible_commands(names, 4, f"any rows {number}"))
            records = editor.records()
            kept = keeping_rows(editor.system())
            for row in rows(len(names)):
                answer = named(editor, "row", row)
                changed = records[:-1] + ((records[-1][0], answer),)
                self.assertIs(are_right(names, changed), row in kept)
                met[row in kept] += 1
        self.assertGreater(min(met.values()), 20)

    def test_answers_are_those_behind_their_commands(self):
        names, journal = ("a", "b", "c"), [("add", "q", ("a", "c")), ("take", "q", "c")]
        records = made(names, journal).records()
        self.assertIs(are_right(names, records), True)
        wide = ("row", ("a", "b", "c"))
        self.assertIs(are_right(names, ((journal[0], wide), records[1])), False)
        self.assertIs(are_right(names, (records[0], (journal[1], wide))), True)
        self.assertIs(are_right(names, records[1:]), False)
        self.assertIs(are_right(names, records[::-1]), False)

    def test_commands_have_to_be_possible(self):
        row = ("row", THREE)
        for commands in [
            [("add", "ada", ()), ("add", "ada", ())], [("drop", "ada")], [("put", "ada", "march")],
            [("add", "ada", ()), ("take", "ada", "march")], [("add", "ada", ("march",)), ("put", "ada", "march")],
            [("add", name, ()) for name in SET_NAMES],
        ]:
            records = tuple((command, row) for command in commands)
            self.assertIs(are_right(THREE, records), False)
            self.assertIs(are_right(THREE, records[:-1]), True)

    def test_no_record_20_records_and_21(self):
        self.assertIs(are_right(THREE, ()), True)
        row = ("row", THREE)
        commands = [("add", "ada", ()), ("drop", "ada")] * 11
        for many in range(23):
            self.assertIs(are_right(THREE, tuple((command, row) for command in commands[:many])), many <= 20)

    def test_records_for_other_names(self):
        records = made(THREE, RING).records()
        self.assertIs(are_right(THREE, records), True)
        for names in [("elegy", "waltz", "march"), ("waltz", "march", "elegy")]:
            # Only the order of the elements is another one: the answers are right for it, too.
            self.assertIs(are_right(names, records), True)
        for names in [("elegy", "march"), ("elegy", "march", "polka"), THREE + ("polka",)]:
            self.assertIs(are_right(names, records), False)

    def test_judging_changes_nothing(self):
        editor = made(THREE, RING)
        records, before = editor.records(), told(editor)
        are_right(editor.names(), records)
        are_right(editor.names(), records[1:])
        self.assertEqual(told(editor), before)
        self.assertEqual(editor.records(), records)


if __name__ == "__main__":
    unittest.main()
