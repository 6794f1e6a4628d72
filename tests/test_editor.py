"""Points 114 to 118 and 121 to 123: an editor, its commands, its answers, and undoing."""

import unittest
from itertools import product
from random import Random

from kepttogether.editor import Editor
from kepttogether.errors import BadValue, NotPossible, TogetherError, TooLarge
from kepttogether.journals import replayed
from kepttogether.links import is_contradictory
from kepttogether.solving import accepts, solve
from kepttogether.systems import is_system
from acting import RING, THREE, editor_of, made, named, renamed_once, told
from editing import NAMES, SET_NAMES, Plain, drawn_commands, possible_commands
from support import drawn_chain, drawn_systems, ends, keeping_rows, pairs, rows, spoiled

FULL = [("add", name, ("march",)) for name in SET_NAMES[:8]]


class EditorChecks(unittest.TestCase):
    def check_not_possible(self, editor, command, why):
        before = told(editor)
        with self.assertRaises(NotPossible, msg=command) as caught:
            editor.act(command)
        self.assertEqual(caught.exception.why, why)
        self.assertIsInstance(caught.exception, TogetherError)
        self.assertNotIsInstance(caught.exception, (BadValue, TooLarge))
        self.assertEqual(told(editor), before)

    def check_too_large(self, editor, command):
        before = told(editor)
        with self.assertRaises(TooLarge) as caught:
            editor.act(command)
        self.assertEqual(caught.exception.what, "commands")
        self.assertIsInstance(caught.exception, TogetherError)
        self.assertEqual(told(editor), before)

    def check_strings(self, value):
        self.assertIn(type(value), (tuple, str))
        for item in value if type(value) is tuple else ():
            self.check_strings(item)


class Names(EditorChecks):
    """Point 114."""

    def test_a_new_editor(self):
        for many in range(1, 9):
            names = NAMES[:many]
            editor = Editor(names)
            self.assertEqual(editor.names(), names)
            self.assertEqual((editor.sets(), editor.journal(), editor.records()), ((), (), ()))
            self.assertEqual(editor.system(), (many, ()))
            self.assertEqual(editor.answer(), ("row", names))
            self.assertIsNone(editor.undo())

    def test_names_of_1_letter_and_of_8(self):
        editor = Editor(("a", "abcdefgh", "zzzzzzzz", "z"))
        editor.act(("add", "q", ("z", "a")))
        editor.act(("add", "qqqqqqqq", ("abcdefgh",)))
        self.assertEqual(editor.sets(), (("q", ("a", "z")), ("qqqqqqqq", ("abcdefgh",))))

    def test_an_element_and_a_set_with_the_same_name(self):
        editor = Editor(THREE)
        self.assertEqual(editor.act(("add", "march", ("waltz", "elegy"))), 1)
        self.assertEqual(editor.act(("put", "march", "march")), 2)
        self.assertEqual(editor.act(("add", "elegy", ("march",))), 3)
        self.assertEqual(editor.sets(), (("march", THREE), ("elegy", ("march",))))
        editor.act(("drop", "march"))
        self.assertEqual(editor.sets(), (("elegy", ("march",)),))
        self.assertEqual(editor.names(), THREE)
        ring = made(("a", "b", "c"), [("add", "a", ("a", "b")), ("add", "b", ("b", "c")), ("add", "c", ("a", "c"))])
        self.assertEqual(ring.answer()[0], "chain")
        self.assertIs(ring.accepts(ring.answer()), True)

    def test_the_order_of_elements_and_sets(self):
        editor = made(("c", "a", "b"), [("add", "z", ("b", "c")), ("add", "y", ("a",)), ("add", "x", ())])
        self.assertEqual(editor.sets(), (("z", ("c", "b")), ("y", ("a",)), ("x", ())))
        self.assertEqual(editor.system(), (3, ((0, 2), (1,), ())))
        editor.act(("put", "y", "c"))
        self.assertEqual(editor.sets()[1], ("y", ("c", "a")))

    def test_editors_do_not_share_anything(self):
        one, other = Editor(THREE), Editor(THREE)
        one.act(RING[0])
        self.assertEqual(other.sets(), ())
        other.act(RING[1])
        self.assertEqual((one.journal(), other.journal()), ((RING[0],), (RING[1],)))


class Commands(EditorChecks):
    """Points 115 and 123."""

    def test_add(self):
        for chosen in [(), ("waltz",), ("waltz", "elegy"), ("march", "waltz", "elegy")]:
            editor = Editor(THREE)
            self.assertEqual(editor.act(("add", "ada", chosen)), 1)
            self.assertEqual(editor.sets(), (("ada", tuple(x for x in THREE if x in chosen)),))
            self.assertEqual(editor.journal(), (("add", "ada", chosen),))

    def test_drop_put_and_take(self):
        editor = made(THREE, RING)
        self.assertEqual(editor.act(("take", "bob", "waltz")), 4)
        self.assertEqual(editor.sets()[1], ("bob", ("march",)))
        self.assertEqual(editor.act(("put", "bob", "elegy")), 5)
        self.assertEqual(editor.sets()[1], ("bob", ("elegy", "march")))
        self.assertEqual(editor.act(("drop", "ada")), 6)
        self.assertEqual(editor.sets(), (("bob", ("elegy", "march")), ("cyd", ("elegy", "waltz"))))
        self.assertEqual(editor.act(("add", "ada", ())), 7)
        self.assertEqual([name for name, _ in editor.sets()], ["bob", "cyd", "ada"])
        for x in ("elegy", "march"):
            editor.act(("take", "bob", x))
        self.assertEqual(editor.sets()[0], ("bob", ()))

    def test_what_is_not_possible(self):
        editor = made(THREE, RING[:2])
        self.check_not_possible(editor, ("add", "ada", ()), "exists")
        self.check_not_possible(editor, ("add", "bob", ("waltz", "march")), "exists")
        self.check_not_possible(editor, ("drop", "cyd"), "missing")
        self.check_not_possible(editor, ("put", "cyd", "elegy"), "missing")
        self.check_not_possible(editor, ("put", "ada", "elegy"), "there")
        self.check_not_possible(editor, ("take", "cyd", "elegy"), "missing")
        self.check_not_possible(editor, ("take", "ada", "waltz"), "not there")
        editor.act(("drop", "ada"))
        for command in [("drop", "ada"), ("put", "ada", "waltz"), ("take", "ada", "elegy")]:
            self.check_not_possible(editor, command, "missing")
        editor.act(("add", "ada", ()))
        self.check_not_possible(editor, ("take", "ada", "elegy"), "not there")

    def test_eight_sets_and_a_ninth(self):
        editor = made(THREE, FULL)
        self.assertEqual(len(editor.sets()), 8)
        self.check_not_possible(editor, ("add", "ida", ()), "many")
        # Of two words that apply the first one counts.
        for name in SET_NAMES[:8]:
            self.check_not_possible(editor, ("add", name, ()), "exists")
        editor.act(("drop", "bob"))
        self.assertEqual(editor.act(("add", "ida", THREE)), 10)
        self.check_not_possible(editor, ("add", "bob", ()), "many")

    def test_20_commands_and_a_21st(self):
        commands = [("add", "ada", ()), ("put", "ada", "march"), ("take", "ada", "march"), ("drop", "ada")] * 5
        editor = made(THREE, commands)
        self.assertEqual(editor.journal(), tuple(commands))
        self.check_too_large(editor, ("add", "ada", ()))
        self.check_too_large(editor, ("add", "bob", THREE))
        # What is not possible comes before too many commands, and a wrong command before both.
        self.check_not_possible(editor, ("drop", "ada"), "missing")
        self.check_not_possible(editor, ("put", "bob", "march"), "missing")
        with self.assertRaises(BadValue) as caught:
            editor.act(("drop", "Ada"))
        self.assertEqual(caught.exception.name, "command")
        self.assertEqual(editor.undo(), ("drop", "ada"))
        self.assertEqual(editor.act(("put", "ada", "waltz")), 20)
        self.check_too_large(editor, ("drop", "ada"))
        self.check_not_possible(editor, ("add", "ada", ()), "exists")
        self.check_not_possible(editor, ("put", "ada", "waltz"), "there")
        self.check_not_possible(editor, ("take", "ada", "elegy"), "not there")
        while editor.undo() is not None:
            pass
        self.assertEqual(told(editor), told(Editor(THREE)))

    def test_eight_sets_and_20_commands(self):
        editor = made(THREE, FULL + [("put", name, "elegy") for name in SET_NAMES[:8]])
        for name in SET_NAMES[:4]:
            editor.act(("put", name, "waltz"))
        self.check_not_possible(editor, ("add", "ida", ()), "many")
        self.check_not_possible(editor, ("add", "ada", ()), "exists")
        self.check_too_large(editor, ("drop", "ada"))

    def test_drawn_commands(self):
        met, both = {}, {True: 0, False: 0}
        for names, number in product([NAMES[:1], NAMES[:3], NAMES[:5], NAMES], range(25)):
            editor, plain = Editor(names), Plain(names)
            for command in drawn_commands(names, 40, number):
                words = plain.words_against(command)
                if words:
                    self.check_not_possible(editor, command, words[0])
                elif len(plain.done) == 20:
                    self.check_too_large(editor, command)
                else:
                    plain.done.append(command)
                    self.assertEqual(editor.act(command), len(plain.done))
                for word in words or ["possible"]:
                    met[word] = met.get(word, 0) + 1
                self.assertEqual(editor.sets(), plain.sets())
                self.assertEqual(editor.system(), plain.system())
                self.assertEqual(editor.journal(), tuple(plain.done))
            self.assertIs(is_system(editor.system()), True)
            both[editor.answer()[0] == "row"] += 1
        self.assertEqual(set(met), {"possible", "exists", "many", "missing", "there", "not there"})
        self.assertGreater(min(met.values()), 5)
        self.assertGreater(min(both.values()), 5)


class Undoing(EditorChecks):
    """Point 116."""

    def test_undoing_all(self):
        for names, number in product([NAMES[:2], NAMES[:4], NAMES[:6]], range(8)):
            journal = possible_commands(names, 20, f"undone {number}")
            editor = made(names, journal)
            for many in range(len(journal), 0, -1):
                self.assertEqual(told(editor), told(made(names, journal[:many])))
                self.assertEqual(editor.undo(), journal[many - 1])
            self.assertIsNone(editor.undo())
            self.assertIsNone(editor.undo())
            self.assertEqual(told(editor), told(Editor(names)))

    def test_commands_behind_undone_ones(self):
        draw = Random("undone")
        for number in range(60):
            names = NAMES[:draw.randint(2, 6)]
            editor, plain = Editor(names), Plain(names)
            for command in drawn_commands(names, 50, f"behind {number}"):
                if draw.random() < 0.3:
                    self.assertEqual(editor.undo(), plain.done.pop() if plain.done else None)
                elif not plain.words_against(command) and len(plain.done) < 20:
                    plain.done.append(command)
                    editor.act(command)
                self.assertEqual(editor.sets(), plain.sets())
                self.assertEqual(editor.journal(), tuple(plain.done))
            self.assertEqual(told(editor), told(made(names, plain.done)))
            self.assertEqual(told(editor), told(replayed(names, tuple(plain.done))))

    def test_a_dropped_set_comes_back_to_its_place(self):
        editor = made(THREE, RING)
        before = told(editor)
        editor.act(("drop", "ada"))
        editor.act(("add", "ada", ("elegy", "march")))
        self.assertNotEqual(editor.sets(), before[1])
        self.assertEqual(editor.undo(), ("add", "ada", ("elegy", "march")))
        self.assertEqual(editor.undo(), ("drop", "ada"))
        self.assertEqual(told(editor), before)

    def test_the_command_is_returned_as_it_was_given(self):
        command = ("add", "ada", ("waltz", "elegy", "march"))
        editor = made(THREE, [command])
        self.assertEqual(editor.journal(), (command,))
        self.assertEqual(editor.records()[0][0], command)
        self.assertEqual(editor.undo(), command)


class Answers(EditorChecks):
    """Points 117 and 118."""

    def test_answers_of_systems(self):
        both = {"row": 0, "chain": 0}
        for system in drawn_systems(150, 1, 5, 8, "answers") + [(3, ((0, 1), (1, 2), (0, 2)))]:
            editor = editor_of(system)
            self.assertEqual(editor.system(), system)
            word, value = editor.answer()
            self.assertEqual((word, value), named(editor, *solve(system)))
            self.assertEqual(word, "row" if keeping_rows(system) else "chain")
            self.check_strings((word, value))
            self.assertIs(editor.accepts((word, value)), True)
            both[word] += 1
        self.assertGreater(min(both.values()), 20)

    def test_large_systems(self):
        for system in drawn_systems(40, 6, 8, 8, "large answers"):
            editor = editor_of(system)
            word, value = editor.answer()
            self.assertEqual(word == "chain", is_contradictory(system))
            self.assertIs(editor.accepts((word, value)), True)
            self.assertIs(Plain(NAMES[:system[0]]).accepts(("row", NAMES[:system[0]])), True)

    def test_all_rows(self):
        for system in drawn_systems(25, 1, 5, 4, "rows of editors"):
            editor = editor_of(system)
            kept = keeping_rows(system)
            for row in rows(system[0]):
                answer = named(editor, "row", row)
                self.assertIs(editor.accepts(answer), row in kept, (system, answer))
                self.assertIs(editor.accepts(("chain", answer[1])), False)

    def test_chains(self):
        both, draw = {True: 0, False: 0}, Random("chains of editors")
        three = (3, ((0, 1), (1, 2), (0, 2)))
        for system in [three, (4, three[1] + ((2, 3),))] * 5 + drawn_systems(20, 3, 5, 6, "chains of editors"):
            for _ in range(60 if system[1] else 0):
                chain = drawn_chain(system, draw.choice((3, 3, 4, 6)), draw, True)
                editor = editor_of(system)
                answer = named(editor, "chain", chain)
                found = editor.accepts(answer)
                self.assertIs(found, accepts(system, ("chain", chain)))
                self.assertIs(found, ends(chain)[1] == chain[0][::-1] and chain[1] != ())
                self.assertTrue(not found or not keeping_rows(system))
                both[found] += 1
        self.assertGreater(min(both.values()), 10)

    def test_changed_answers(self):
        ring = made(THREE, RING)
        both = {True: 0, False: 0}
        for editor in (Editor(THREE), made(THREE, RING[:2]), ring, editor_of((4, ((0, 1), (2, 3))))):
            plain = Plain(editor.names())
            plain.done = list(editor.journal())
            answer = editor.answer()
            for other in spoiled(answer) + renamed_once(answer, [*editor.names(), *SET_NAMES, "zz", ""]):
                found = editor.accepts(other)
                self.assertIs(type(found), bool)
                self.assertIs(found, plain.accepts(other), other)
                both[found] += 1
        self.assertGreater(min(both.values()), 3)

    def test_names_and_not_places(self):
        editor = made(THREE, RING[:2])
        self.assertIs(editor.accepts(("row", THREE)), True)
        self.assertIs(editor.accepts(("row", (0, 1, 2))), False)
        self.assertIs(editor.accepts(solve(editor.system())), False)
        self.assertIs(made(THREE, RING).accepts(solve(editor.system())), False)
        self.assertIs(editor.accepts(("row", ("elegy", "march", 2))), False)
        self.assertIs(editor.accepts(("row", ("ada", "bob", "cyd"))), False)

    def test_sets_and_elements_are_told_by_their_own_names(self):
        ring = made(THREE, RING)
        word, (begin, steps) = ring.answer()
        self.assertIs(ring.accepts((word, (begin, steps))), True)
        for at, (name, pair) in enumerate(steps):
            for other in (pair[0], "ida", 0, None, ("ada",)):
                changed = steps[:at] + ((other, pair),) + steps[at + 1:]
                self.assertIs(ring.accepts((word, (begin, changed))), False)
            changed = steps[:at] + ((name, (name, pair[1])),) + steps[at + 1:]
            self.assertIs(ring.accepts((word, (begin, changed))), False)

    def test_chains_of_100_steps_and_more(self):
        ring = made(THREE, RING)
        (begin, steps) = (("elegy", "march"), (
            ("bob", ("elegy", "waltz")), ("ada", ("march", "waltz")), ("cyd", ("march", "elegy")),
        ))
        around = (("bob", ("elegy", "waltz")), ("bob", ("elegy", "march")))
        for many, accepted in [(0, True), (1, True), (48, True), (49, False), (60, False)]:
            self.assertIs(ring.accepts(("chain", (begin, around * many + steps))), accepted, many)

    def test_asking_changes_nothing(self):
        editor = made(THREE, RING)
        before = told(editor)
        for value in [("row", THREE), editor.answer(), None, [], ("row", [THREE])]:
            editor.accepts(value)
        self.assertEqual(told(editor), before)
        self.assertEqual(told(editor), before)

    def test_what_is_returned_cannot_be_changed(self):
        editor = made(THREE, RING)
        for value in told(editor)[:2] + told(editor)[3:]:
            self.check_strings(value)
        self.check_numbers(editor.system())

    def check_numbers(self, value):
        self.assertIn(type(value), (tuple, int))
        for item in value if type(value) is tuple else ():
            self.check_numbers(item)


class Comparing(EditorChecks):
    """Points 121 and 122."""

    def test_names_of_sets_do_not_matter(self):
        met = {"row": 0, "chain": 0}
        for system in drawn_systems(80, 3, 5, 8, "other names"):
            one, other = editor_of(system), editor_of(system, sets=["z", *SET_NAMES[::-1]])
            table = {name: new for (name, _), (new, _) in zip(one.sets(), other.sets())}
            word, value = one.answer()
            if word == "chain":
                value = (value[0], tuple((table[name], pair) for name, pair in value[1]))
            self.assertEqual(other.answer(), (word, value))
            met[word] += 1
        self.assertGreater(min(met.values()), 10)

    def test_how_the_sets_came_about_does_not_matter(self):
        for number in range(60):
            names = NAMES[:2 + number % 4]
            editor = made(names, possible_commands(names, 20, f"ways {number}"))
            other = made(names, [("add", name, chosen[::-1]) for name, chosen in editor.sets()])
            self.assertEqual(told(other)[:4], told(editor)[:4])

    def test_dropping_and_adding(self):
        met = {"drop": 0, "add": 0}
        for number in range(150):
            names = NAMES[:2 + number % 4]
            editor = Editor(names)
            for command in possible_commands(names, 20, f"dropped {number}"):
                before = is_contradictory(editor.system())
                editor.act(command)
                after = is_contradictory(editor.system())
                if command[0] == "drop":
                    self.assertFalse(after and not before)
                if command[0] == "add":
                    self.assertFalse(before and not after)
                    met["add"] += after and not before
                if command[0] == "add":
                    editor.undo()
                    self.assertEqual(is_contradictory(editor.system()), before)
                    editor.act(command)
                met["drop"] += command[0] == "drop" and before and not after
        self.assertGreater(min(met.values()), 3)

    def test_putting_and_taking_can_do_both(self):
        met = set()
        for system in drawn_systems(60, 3, 4, 5, "putting"):
            editor = editor_of(system)
            for name, chosen in editor.sets():
                for x in editor.names():
                    command = ("take" if x in chosen else "put", name, x)
                    before = is_contradictory(editor.system())
                    editor.act(command)
                    met.add((command[0], before, is_contradictory(editor.system())))
                    editor.undo()
        self.assertEqual(met, set(product(("put", "take"), (True, False), (True, False))))


class References(unittest.TestCase):
    """The reference of this file is worth something only if it tells right from wrong itself."""

    def test_plain(self):
        plain = Plain(THREE)
        plain.done = list(RING)
        self.assertEqual(plain.words_against(("add", "ada", ())), ["exists"])
        self.assertEqual(plain.words_against(("take", "zoe", "elegy")), ["missing", "not there"])
        self.assertIs(plain.accepts(("row", THREE)), False)
        self.assertIs(plain.accepts(Editor(THREE).answer()), False)
        self.assertIs(plain.accepts(made(THREE, RING).answer()), True)
        self.assertEqual(len(pairs(3)), 6)


if __name__ == "__main__":
    unittest.main()
