"""Points 103 to 109: what can come in texts, and reading systems, rows and chains."""

import unittest
from itertools import product
from random import Random

from kepttogether.errors import BadValue, TextError, TogetherError
from kepttogether.reading import next_tokens, read_chain, read_row, read_system
from sentences import KINDS, can_come, is_beginning, letters_of, listed, read_by_words, spaced, zeroed
from tokens import NO_TOKENS, drawn_texts, tokens_by_words

SYSTEM = (4, ((0, 1), (), (1, 2, 3)))
EIGHT = "8: " + " | ".join(["0"] * 8)
SAMPLES = {
    "system": ["1:", "4: 1 0 | - | 3 2 1", "8:-|-|-|-|-|-|-|0 1 2 3 4 5 6 7", "3:2|0 1"],
    "row": ["0", "2 0 1 3", "7 6 5 4 3 2 1 0"],
    "chain": ["0<1", "0<1 / 2: 0<3", "3<0/0:3<1/1:2<1/2:2<0"],
}


class TextChecks(unittest.TestCase):
    def check_problem(self, column, words, function, *given):
        with self.assertRaises(TextError, msg=(function.__name__, given)) as caught:
            function(*given)
        self.assertEqual((caught.exception.column, caught.exception.words), (column, words), given)
        self.assertIs(type(caught.exception.column), int)
        self.assertIsInstance(caught.exception, TogetherError)
        self.assertNotIsInstance(caught.exception, BadValue)

    def check_read(self, kind, given, text):
        """Compare with the reference; return True if the text could be read."""
        function = {"system": read_system, "row": read_row, "chain": read_chain}[kind]
        arguments = [text] if kind == "system" else [given, text]
        word, expected = read_by_words(kind, given, text)
        if word == "problem":
            self.check_problem(*expected, function, *arguments)
            return False
        found = function(*arguments)
        self.assertEqual(found, expected, (kind, given, text))
        self.check_kinds(found)
        return True

    def check_kinds(self, value):
        self.assertIn(type(value), (tuple, int))
        for item in value if type(value) is tuple else ():
            self.check_kinds(item)


class NextTokens(TextChecks):
    """Points 105 and 106."""

    def test_all_beginnings(self):
        met = {kind: {} for kind in KINDS}
        for kind in KINDS:
            for many in range(7 if kind == "chain" else 6):
                for letters in product("n:</" if kind == "chain" else "n:|-", repeat=many):
                    letters = "".join(letters)
                    if is_beginning(letters, kind):
                        text = letters.replace("n", " 1 ")
                        found = next_tokens(text, kind)
                        self.assertEqual(found, can_come(letters, kind), (text, kind))
                        self.assertIs(type(found), list)
                        met[kind][tuple(found)] = True
        self.assertEqual(set(met["row"]), {("a number",), ("a number", "the end")})
        self.assertEqual(set(met["chain"]), {("a number",), ('":"',), ('"<"',), ('"/"', "the end")})
        self.assertEqual(set(met["system"]), {
            ("a number",), ('":"',), ("a number", '"-"', "the end"), ("a number", '"|"', "the end"),
            ('"|"', "the end"), ("a number", '"-"'),
        })

    def test_texts_that_are_no_beginnings(self):
        met = 0
        for kind in KINDS:
            for many in range(5):
                for letters in product("n:|-</", repeat=many):
                    letters = "".join(letters)
                    text = letters.replace("n", " 1 ")
                    good = [at for at in range(len(letters) + 1) if is_beginning(letters[:at], kind)]
                    if good[-1] < len(letters):
                        token = tokens_by_words(text)[good[-1]]
                        words = "expected " + listed(can_come(letters[:good[-1]], kind))
                        self.check_problem(token[2], words, next_tokens, text, kind)
                        met += 1
        self.assertGreater(met, 2000)

    def test_exactly_the_tokens_with_which_a_text_goes_on_to_be_a_beginning(self):
        shown = {"a number": " 5 ", **{f'"{sign}"': sign for sign in ":|-</"}}
        for kind in KINDS:
            for sample in SAMPLES[kind]:
                for many in range(len(sample) + 1):
                    text = sample[:many]
                    told = next_tokens(text, kind)
                    for word, token in shown.items():
                        # A number directly behind another one would be one with it.
                        more = text + " " + token
                        if word in told:
                            next_tokens(more, kind)
                        else:
                            column = len(text) + 2 + (token[0] == " ")
                            self.check_problem(column, "expected " + listed(told), next_tokens, more, kind)
                    self.assertIs("the end" in told, self.follows_the_grammar(text, kind), (text, kind))

    def follows_the_grammar(self, text, kind):
        tokens = tokens_by_words(text)
        return is_beginning(letters_of(tokens), kind)

    def test_the_numbers_do_not_matter(self):
        self.assertEqual(next_tokens("0", "system"), ['":"'])
        self.assertEqual(next_tokens("999999: 9 9 | 123", "system"), ["a number", '"|"', "the end"])
        self.assertEqual(next_tokens("7 7 7", "row"), ["a number", "the end"])
        self.assertEqual(next_tokens("8<8/99:1<1", "chain"), ['"/"', "the end"])
        self.assertEqual(next_tokens("9:" + "-|" * 20, "system"), ["a number", '"-"'])

    def test_texts_of_0_and_1000_characters(self):
        for kind in KINDS:
            for text in ("", " ", " " * 1000):
                self.assertEqual(next_tokens(text, kind), ["a number"])
        self.assertEqual(next_tokens("1 " * 500, "row"), ["a number", "the end"])
        self.assertEqual(next_tokens("1:" + "-|" * 499, "system"), ["a number", '"-"'])

    def test_problems_of_tokens_come_first(self):
        for kind in KINDS:
            self.check_problem(6, "no token begins here", next_tokens, "<<  :a", kind)
            self.check_problem(3, "a number has at most 6 digits", next_tokens, "| 1234567", kind)
            self.check_problem(1, "expected a number", next_tokens, "| 123456", kind)

    def test_a_changed_list_changes_no_later_result(self):
        found = next_tokens("4:", "system")
        found.append("x")
        found[0] = None
        self.assertEqual(next_tokens("4:", "system"), ["a number", '"-"', "the end"])


class Problems(TextChecks):
    """Points 104, 106 and the order of all problems."""

    def test_what_is_expected(self):
        for text, column, words in [
            ("", 1, "expected a number"), ("   ", 4, "expected a number"), (":", 1, "expected a number"),
            ("4", 2, 'expected ":"'), ("4 4", 3, 'expected ":"'), ("4|", 2, 'expected ":"'),
            ("4: |", 4, 'expected a number, "-" or the end'), ("4::", 3, 'expected a number, "-" or the end'),
            ("4:1 -", 5, 'expected a number, "|" or the end'), ("4:-1", 4, 'expected "|" or the end'),
            ("4:--", 4, 'expected "|" or the end'), ("4:1|", 5, 'expected a number or "-"'),
            ("4:1||", 5, 'expected a number or "-"'), ("4:1|-|  ", 9, 'expected a number or "-"'),
            ("4:1/", 4, 'expected a number, "|" or the end'),
        ]:
            self.check_problem(column, words, read_system, text)
        for text, column, words in [
            ("", 1, "expected a number"), ("-", 1, "expected a number"), ("0 1:", 4, "expected a number or the end"),
            ("0<1", 2, "expected a number or the end"), (" 0 1 |", 6, "expected a number or the end"),
        ]:
            self.check_problem(column, words, read_row, 2, text)
        for text, column, words in [
            ("", 1, "expected a number"), ("0", 2, 'expected "<"'), ("0 1", 3, 'expected "<"'),
            ("0<", 3, "expected a number"), ("0<<", 3, "expected a number"), ("0<1 2", 5, 'expected "/" or the end'),
            ("0<1<", 4, 'expected "/" or the end'), ("0<1/", 5, "expected a number"), ("0<1//", 5, "expected a number"),
            ("0<1/0", 6, 'expected ":"'), ("0<1/0 0<1", 7, 'expected ":"'), ("0<1/0:", 7, "expected a number"),
            ("0<1/0:0", 8, 'expected "<"'), ("0<1/0:0<", 9, "expected a number"),
            ("0<1/0:0<1:", 10, 'expected "/" or the end'),
        ]:
            self.check_problem(column, words, read_chain, SYSTEM, text)

    def test_texts_that_end_too_early_at_each_place(self):
        met = 0
        for kind in KINDS:
            for sample in SAMPLES[kind]:
                for many in range(len(sample)):
                    for text in (sample[:many], sample[:many] + "  "):
                        given = {"system": None, "row": len(sample.split()), "chain": SYSTEM}[kind]
                        met += not self.check_read(kind, given, text)
        self.assertGreater(met, 80)

    def test_texts_that_go_on_behind_their_end(self):
        for kind in KINDS:
            for sample in SAMPLES[kind]:
                given = {"system": None, "row": len(sample.split()), "chain": SYSTEM}[kind]
                self.assertIs(self.check_read(kind, given, sample), True)
                behind = [" 1", ":", "|", "-", "<", "/", " :", " 1 |", "/1", "a", " 1234567", "|-", "-|", "/0:0<1"]
                for more in behind:
                    self.check_read(kind, given, sample + more)

    def test_two_problems(self):
        # Problems of tokens come before all others, then those of the grammar, then those of the numbers.
        for text, column, words in [
            ("9: 4 4 | ? 1234567", 10, "no token begins here"),
            ("9: 4 4 | 1234567 ?", 10, "a number has at most 6 digits"),
            ("9: 4 4 | <", 10, 'expected a number or "-"'), ("9: 4 4 | - -", 12, 'expected "|" or the end'),
            ("0: 4 4 | <<", 10, 'expected a number or "-"'), ("9: 9 9", 1, "a size is from 1 to 8"),
            ("0: 4 4", 1, "a size is from 1 to 8"), ("4: 4 0 0", 4, "there is no such element"),
            ("4: 0 0 4", 6, "this element stands already"), ("4: 0 | 1 1 | 4", 10, "this element stands already"),
            ("4: 4 4", 4, "there is no such element"), ("4: 3 3 3 4", 6, "this element stands already"),
        ]:
            self.check_problem(column, words, read_system, text)
        for text, column, words in [
            ("4 0 0 ?", 7, "no token begins here"), ("4 0 0 : :", 7, "expected a number or the end"),
            ("4 0 0", 1, "there is no such element"), ("0 0 4", 3, "this element stands already"),
            ("0 1 0", 5, "this element stands already"), ("0 1 2", 6, "an element is missing"),
            ("0 1 2 3 4", 9, "there is no such element"), ("0 1 2 3 3", 9, "this element stands already"),
        ]:
            self.check_problem(column, words, read_row, 4, text)
        for text, column, words in [
            ("4<4 / 9: 5<5 / 3 ?", 18, "no token begins here"), ("4<4 / 9: 5<5 /", 15, "expected a number"),
            ("4<4", 1, "there is no such element"), ("0<4", 3, "there is no such element"),
            ("4<0", 1, "there is no such element"), ("0<0", 3, "a pair has two different elements"),
            ("0<0 / 3: 0<1", 3, "a pair has two different elements"), ("0<1 / 3: 0<0", 7, "there is no such set"),
            ("0<1 / 2: 0<0 / 3: 4<4", 12, "a pair has two different elements"),
            ("0<1 / 2: 4<4 / 3: 4<4", 10, "there is no such element"),
            ("0<1 / 2: 3<1 / 3: 1<0", 16, "there is no such set"),
        ]:
            self.check_problem(column, words, read_chain, SYSTEM, text)

    def test_drawn_texts(self):
        met = {kind: {True: 0, False: 0} for kind in KINDS}
        for kind, alphabet, given in [
            ("system", "2345 00112233:|| -", None), ("row", "0123 0123 0 ", 3), ("row", "0 1 ", 2),
            ("chain", "0123<<< / :: 0/1:", SYSTEM),
        ]:
            for text in drawn_texts(3000, alphabet, f"texts of {kind}"):
                met[kind][self.check_read(kind, given, text)] += 1
        draw = Random("spoiled texts")
        for kind in KINDS:
            for sample in SAMPLES[kind]:
                given = {"system": None, "row": len(sample.split()), "chain": SYSTEM}[kind]
                for at in range(len(sample)):
                    for other in [*"0123489:|-</ ", "?", "12", ""]:
                        text = sample[:at] + other + sample[at + 1:]
                        met[kind][self.check_read(kind, given, text)] += 1
                        self.check_read(kind, given, zeroed(text, draw))
        self.assertGreater(min(many for both in met.values() for many in both.values()), 30)


class Reading(TextChecks):
    """Points 107 to 109."""

    def test_sizes(self):
        for size in range(1, 9):
            for text in (f"{size}:", f" {size} : ", f"00{size}:", f"{size:06}:"):
                self.assertEqual(read_system(text), (size, ()))
            for other in range(size):
                self.assertEqual(read_system(f"{size}:{other}"), (size, ((other,),)))
            self.check_problem(3, "there is no such element", read_system, f"{size}:{size}")
        for size in ("0", "9", "10", "000000", "000009", "999999"):
            self.check_problem(2, "a size is from 1 to 8", read_system, f" {size}:")
            self.check_problem(1, "a size is from 1 to 8", read_system, f"{size}: 9 | 9")

    def test_systems(self):
        self.assertEqual(read_system("4: 1 0 | - | 3 2 1"), SYSTEM)
        self.assertEqual(read_system("4:1 0|-|3 2 1"), SYSTEM)
        self.assertEqual(read_system("  4  :  1  0  |  -  |  3  2  1  "), SYSTEM)
        self.assertEqual(read_system("004:01 000|-|3 002 1"), SYSTEM)
        self.assertEqual(read_system("4:-"), (4, ((),)))
        self.assertEqual(read_system("4:-|-"), (4, ((), ())))
        self.assertEqual(read_system("2: 0 | 0 | 1 0 | 0 1"), (2, ((0,), (0,), (0, 1), (0, 1))))

    def test_no_element_stands_twice_in_a_set(self):
        self.check_problem(7, "this element stands already", read_system, "4: 01 1")
        self.check_problem(10, "this element stands already", read_system, "4: 1 0 2 0")
        self.assertEqual(read_system("4: 1 0 | 1 0"), (4, ((0, 1), (0, 1))))

    def test_eight_sets_and_nine(self):
        self.assertEqual(read_system(EIGHT), (8, ((0,),) * 8))
        for more, column in [("|0", 34), ("|-", 34), (" | 8", 36), ("| 0 0", 35), ("|-|9|9", 34), ("|7 9", 34)]:
            self.check_problem(column, "there are at most 8 sets", read_system, EIGHT + more)
        self.check_problem(34, 'expected a number or "-"', read_system, EIGHT + "|")
        # What is ahead of the ninth set comes first.
        self.check_problem(32, "there is no such element", read_system, EIGHT[:-1] + "8|9|9")
        self.check_problem(1, "a size is from 1 to 8", read_system, "9" + EIGHT[1:] + "|1")

    def test_rows(self):
        self.assertEqual(read_row(4, "2 0 1 3"), (2, 0, 1, 3))
        self.assertEqual(read_row(4, " 002 0 01  3 "), (2, 0, 1, 3))
        self.assertEqual(read_row(1, "0"), (0,))
        self.assertEqual(read_row(8, "7 6 5 4 3 2 1 0"), (7, 6, 5, 4, 3, 2, 1, 0))
        for size in range(2, 9):
            ascending = " ".join(str(x) for x in range(size))
            self.assertEqual(read_row(size, ascending), tuple(range(size)))
            self.check_problem(2 * size - 2, "an element is missing", read_row, size, ascending[:-2])
            self.check_problem(2 * size + 1, "there is no such element", read_row, size, f"{ascending} {size}")
            self.check_problem(2 * size + 1, "this element stands already", read_row, size, f"{ascending} 0")
        self.check_problem(6, "an element is missing", read_row, 4, "0 1  ")
        self.check_problem(1, "there is no such element", read_row, 4, "10")

    def test_chains(self):
        chain = ((0, 1), ((2, (0, 3)),))
        for text in ("0<1 / 2: 0<3", "0<1/2:0<3", " 0 < 1  /  2  :  0 < 3 ", "00<001/02:000000<3"):
            self.assertEqual(read_chain(SYSTEM, text), chain)
        self.assertEqual(read_chain(SYSTEM, "3<0"), ((3, 0), ()))
        # Whether the steps are right is not asked.
        self.assertEqual(read_chain(SYSTEM, "3<0/1:3<0/1:0<3"), ((3, 0), ((1, (3, 0)), (1, (0, 3)))))

    def test_chains_without_sets_and_without_pairs(self):
        self.assertEqual(read_chain((2, ()), "0<1"), ((0, 1), ()))
        self.check_problem(5, "there is no such set", read_chain, (2, ()), "0<1/0:0<1")
        self.check_problem(3, "a pair has two different elements", read_chain, (1, ((0,),)), "0<0")
        self.check_problem(3, "there is no such element", read_chain, (1, ((0,),)), "0<1")
        self.assertEqual(read_chain((8, ((),) * 8), "7<6/7:6<7"), ((7, 6), ((7, (6, 7)),)))
        self.check_problem(5, "there is no such set", read_chain, (8, ((),) * 8), "7<6/8:6<8")

    def test_chains_of_no_step_of_100_and_of_101(self):
        for many in (0, 1, 99, 100):
            found = read_chain(SYSTEM, "0<1" + "/2:0<3" * many)
            self.assertEqual(found, ((0, 1), ((2, (0, 3)),) * many))
        for more in ("/2:0<3", "/3:4<4", "/9:9<9/9:9<9"):
            self.check_problem(605, "there are at most 100 steps", read_chain, SYSTEM, "0<1" + "/2:0<3" * 100 + more)
        self.check_problem(599, "there is no such set", read_chain, SYSTEM, "0<1" + "/2:0<3" * 99 + "/3:0<3/2:0<3")
        self.check_problem(611, "expected a number", read_chain, SYSTEM, "0<1" + "/2:0<3" * 101 + "//")

    def test_texts_of_1000_characters(self):
        for kind in KINDS:
            for sample in SAMPLES[kind]:
                given = {"system": None, "row": len(sample.split()), "chain": SYSTEM}[kind]
                for text in (sample.ljust(1000), sample.rjust(1000)):
                    self.assertEqual(len(text), 1000)
                    self.assertIs(self.check_read(kind, given, text), True)
        self.check_problem(1001, "expected a number", read_system, " " * 1000)
        self.check_problem(1001, "an element is missing", read_row, 2, "0".ljust(1000))
        self.check_problem(1000, "there is no such element", read_row, 2, "2".rjust(1000))

    def test_characters_that_no_token_has(self):
        for character in NO_TOKENS:
            self.check_problem(4, "no token begins here", read_system, f"4: {character} 9 :")
            self.check_problem(3, "no token begins here", read_row, 2, f"9 {character}")
            self.check_problem(1, "no token begins here", read_chain, SYSTEM, f"{character}<")

    def test_other_spaces_and_zeros_change_nothing(self):
        draw = Random("spaces")
        for kind in KINDS:
            for sample in SAMPLES[kind] * 20:
                given = {"system": None, "row": len(sample.split()), "chain": SYSTEM}[kind]
                text = spaced(zeroed(sample, draw), draw)
                self.assertEqual(read_by_words(kind, given, text), read_by_words(kind, given, sample))
                self.assertIs(self.check_read(kind, given, text), True, text)


if __name__ == "__main__":
    unittest.main()
