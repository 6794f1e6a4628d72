"""Points 103 and 104: the tokens of a text, and their problems."""

import unittest
from itertools import product

from kepttogether.errors import BadValue, TextError, TogetherError
from kepttogether.scanning import scan
from tokens import NO_TOKENS, SIGNS, drawn_texts, tokens_by_words


class Scanning(unittest.TestCase):
    def check(self, text):
        expected = tokens_by_words(text)
        if isinstance(expected, list):
            found = scan(text)
            self.assertEqual(found, expected, repr(text))
            self.assertIs(type(found), list)
            for token in found:
                self.assertEqual([type(part) for part in token], [str, str, int])
            self.assertIs(type(token), tuple)
        else:
            self.check_problem(text, *expected)

    def check_problem(self, text, column, words):
        with self.assertRaises(TextError, msg=repr(text)) as caught:
            scan(text)
        self.assertEqual((caught.exception.column, caught.exception.words), (column, words), repr(text))
        self.assertIs(type(caught.exception.column), int)
        self.assertIsInstance(caught.exception, TogetherError)
        self.assertNotIsInstance(caught.exception, BadValue)

    def test_all_short_texts(self):
        for many in range(6):
            for text in product(" 07:<a" if many > 3 else " 07:|-</a\t", repeat=many):
                self.check("".join(text))

    def test_drawn_texts(self):
        for text in drawn_texts(3000, "  0123456789:|-</", "tokens") + drawn_texts(2000, "0123456789 -", "numbers"):
            self.check(text)
        for text in drawn_texts(2000, "0123456789 :|-</ax\t" + "".join(NO_TOKENS), "problems"):
            self.check(text)

    def test_kinds(self):
        self.assertEqual(scan("4: 1 0 | -"), [
            ("number", "4", 1), ("sign", ":", 2), ("number", "1", 4), ("number", "0", 6), ("sign", "|", 8),
            ("sign", "-", 10), ("end", "", 11),
        ])
        self.assertEqual(scan("0<1/12:007<3"), [
            ("number", "0", 1), ("sign", "<", 2), ("number", "1", 3), ("sign", "/", 4), ("number", "12", 5),
            ("sign", ":", 7), ("number", "007", 8), ("sign", "<", 11), ("number", "3", 12), ("end", "", 13),
        ])
        for sign in SIGNS:
            self.assertEqual(scan(sign), [("sign", sign, 1), ("end", "", 2)])
            self.assertEqual(scan(sign + sign), [("sign", sign, 1), ("sign", sign, 2), ("end", "", 3)])

    def test_no_characters_and_only_blanks(self):
        self.assertEqual(scan(""), [("end", "", 1)])
        for many in (1, 2, 999, 1000):
            self.assertEqual(scan(" " * many), [("end", "", many + 1)])
        self.assertEqual(scan("  7  "), [("number", "7", 3), ("end", "", 6)])

    def test_numbers_of_6_digits_and_of_7(self):
        for digits in ("123456", "000000", "999999"):
            self.assertEqual(scan(digits), [("number", digits, 1), ("end", "", 7)])
            for digit in "0123456789":
                self.check_problem(digits + digit, 1, "a number has at most 6 digits")
                self.check_problem(f"1 {digits}{digit}", 3, "a number has at most 6 digits")
            self.assertEqual(len(scan(digits + " " + digits)), 3)
        self.check_problem("1" * 1000, 1, "a number has at most 6 digits")
        self.assertEqual(scan("123456-123456"), [
            ("number", "123456", 1), ("sign", "-", 7), ("number", "123456", 8), ("end", "", 14),
        ])

    def test_characters_that_no_token_has(self):
        for character in NO_TOKENS:
            self.check_problem(character, 1, "no token begins here")
            self.check_problem("12" + character, 3, "no token begins here")
            self.check_problem(" : " + character + "1", 4, "no token begins here")
            self.check_problem("1" + character + "1", 2, "no token begins here")

    def test_all_ascii_characters(self):
        for code in range(128):
            if chr(code) != "\n":
                self.check(chr(code))
                self.check(f"1{chr(code)}2")

    def test_a_problem_behind_a_problem(self):
        self.check_problem("a 1234567", 1, "no token begins here")
        self.check_problem("1234567 a", 1, "a number has at most 6 digits")
        self.check_problem("1234567a", 1, "a number has at most 6 digits")
        self.check_problem("1 a b", 3, "no token begins here")
        self.check_problem("12 1234567 1234567", 4, "a number has at most 6 digits")

    def test_texts_of_1000_characters(self):
        for text in ["1" + " " * 999, " " * 999 + "1", "7 " * 500, ":|-</" * 200, "123456 7<" * 111 + "x"]:
            self.assertEqual(len(text), 1000)
            self.check(text)

    def test_wrong_texts(self):
        strings = ["7" * 6 + " " * 995, " " * 1001, "\n", "1\n", "\n1", "a\n", " " * 999 + "\n\n"]
        for value in strings + [None, 7, b"7", ("7",), ["7"], True]:
            with self.assertRaises(BadValue) as caught:
                scan(value)
            self.assertEqual(caught.exception.name, "text")

    def test_a_changed_list_changes_no_later_result(self):
        found = scan("1 : 2")
        kept = list(found)
        found.append(None)
        del found[0]
        self.assertEqual(scan("1 : 2"), kept)


if __name__ == "__main__":
    unittest.main()
