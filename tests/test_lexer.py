"""Promises 2.1, 2.2 and 2.3."""

import unittest

from pourparler.errors import Malformed, Oversized
from pourparler.lexer import RESERVED, is_name, tokens

WORDS = (
    "actor and become bool close done drop else end fail fall false hear if int let not open or say talk true"
).split()
SIGNS = ["==", "<=", "=", "<", "+", "-", "*", "~", ".", ",", ":", ";", "(", ")", "{", "}"]
LETTERS = "abcdefghijklmnopqrstuvwxyzABCDEFGHIJKLMNOPQRSTUVWXYZ"


class LexerCase(unittest.TestCase):
    def assert_malformed(self, text, at):
        with self.assertRaises(Malformed) as caught:
            tokens(text)
        self.assertEqual(caught.exception.at, at, text)

    def parts(self, text):
        return [token[:2] for token in tokens(text)]


class TextsTest(LexerCase):
    def test_example(self):
        self.assertEqual(tokens("say c.l(3);"), [
            ("word", "say", 0), ("name", "c", 4), ("sign", ".", 5), ("name", "l", 6),
            ("sign", "(", 7), ("number", 3, 8), ("sign", ")", 9), ("sign", ";", 10),
        ])

    def test_no_tokens(self):
        for text in ("", " ", "\t\n ", "#", "# x", "#\n", " # a\n# b"):
            self.assertEqual(tokens(text), [], text)

    def test_returns_a_list_of_tuples(self):
        found = tokens("a 1")
        self.assertIs(type(found), list)
        self.assertTrue(all(type(token) is tuple for token in found))

    def test_longest_text(self):
        self.assertEqual(tokens(" " * 20000), [])
        self.assertEqual(tokens(" " * 19999 + "x"), [("name", "x", 19999)])
        self.assertEqual(len(tokens("+" * 20000)), 20000)

    def test_text_that_is_too_long(self):
        for text in (" " * 20001, "#" * 20001, "?" * 20001, "9" * 20001):
            with self.assertRaises(Oversized) as caught:
                tokens(text)
            self.assertEqual(caught.exception.limit, "text")

    def test_separators(self):
        expected = [("name", "a", 0), ("name", "b", 2), ("number", 1, 4)]
        self.assertEqual(tokens("a b 1"), expected)
        self.assertEqual(tokens("a\tb\n1"), expected)
        self.assertEqual(tokens("a\n\tb#\n1"), [("name", "a", 0), ("name", "b", 3), ("number", 1, 6)])

    def test_comments(self):
        self.assertEqual(tokens("a#b c\nd"), [("name", "a", 0), ("name", "d", 6)])
        self.assertEqual(tokens("a # ? 007 \x00\n+"), [("name", "a", 0), ("sign", "+", 12)])
        self.assertEqual(tokens("a # b"), [("name", "a", 0)])
        self.assertEqual(tokens("a # b # c\n#d\nlet"), [("name", "a", 0), ("word", "let", 13)])

    def test_tokens_side_by_side(self):
        self.assertEqual(self.parts("x+1*y"), [
            ("name", "x"), ("sign", "+"), ("number", 1), ("sign", "*"), ("name", "y"),
        ])
        self.assertEqual(self.parts("not(true)"), [
            ("word", "not"), ("sign", "("), ("word", "true"), ("sign", ")"),
        ])
        self.assertEqual(self.parts("1,2"), [("number", 1), ("sign", ","), ("number", 2)])


class TokensTest(LexerCase):
    def test_reserved_words(self):
        self.assertEqual(RESERVED, tuple(WORDS))
        for word in WORDS:
            self.assertEqual(tokens(" " + word), [("word", word, 1)])

    def test_words_near_reserved_ones(self):
        for word in WORDS:
            for near in (word + "x", word + "_", word + "0", word.upper(), word.capitalize(), "x" + word):
                self.assertEqual(tokens(near), [("name", near, 0)])
        for near in ("main", "self", "Main", "Actor", "fals", "tru"):
            self.assertEqual(tokens(near), [("name", near, 0)])

    def test_names(self):
        for letter in LETTERS:
            self.assertEqual(tokens(letter), [("name", letter, 0)])
        for name in ("a_", "a1", "Z9_9z", "a__b", "x" * 20, "a" + "_" * 19, "B" + "7" * 19):
            self.assertEqual(tokens(name), [("name", name, 0)])

    def test_numbers(self):
        for number in (0, 1, 9, 10, 255, 9999, 10000, 65534, 65535):
            self.assertEqual(tokens(str(number)), [("number", number, 0)])
            self.assertIs(type(tokens(str(number))[0][1]), int)

    def test_each_sign(self):
        for sign in SIGNS:
            self.assertEqual(tokens(sign + " " + sign), [("sign", sign, 0), ("sign", sign, len(sign) + 1)])

    def test_longest_sign(self):
        self.assertEqual(tokens("==="), [("sign", "==", 0), ("sign", "=", 2)])
        self.assertEqual(tokens("===="), [("sign", "==", 0), ("sign", "==", 2)])
        self.assertEqual(tokens("<=="), [("sign", "<=", 0), ("sign", "=", 2)])
        self.assertEqual(tokens("<<="), [("sign", "<", 0), ("sign", "<=", 1)])
        self.assertEqual(tokens("=<"), [("sign", "=", 0), ("sign", "<", 1)])
        self.assertEqual(tokens("= ="), [("sign", "=", 0), ("sign", "=", 2)])
        self.assertEqual(tokens("<#\n="), [("sign", "<", 0), ("sign", "=", 3)])


class MalformedTest(LexerCase):
    def test_other_characters(self):
        for other in ("?", "!", "_", "/", "%", "&", "|", ">", "[", "]", "'", '"', "@", "\\", "$", "^", "`",
                      "\r", "\x00", "\x0b", "\x0c", "\xa0", "\xe9", "\u0663", "\u03b1", "\U0001f600"):
            self.assert_malformed(other, 0)
            self.assert_malformed("a " + other, 2)
            self.assert_malformed(";" + other, 1)

    def test_other_characters_end_names_and_numbers(self):
        self.assert_malformed("ab\xe9", 2)
        self.assert_malformed("12\xe9", 2)
        self.assert_malformed("12\u0663", 2)

    def test_names_that_are_too_long(self):
        self.assert_malformed("x" * 21, 0)
        self.assert_malformed("  " + "a" + "_" * 20, 2)
        self.assert_malformed("b" + "1" * 300, 0)

    def test_numbers_that_are_too_large(self):
        for number in ("65536", "65537", "70000", "99999", "100000", "1" + "0" * 6000):
            self.assert_malformed(" " + number, 1)

    def test_leading_zeros(self):
        self.assert_malformed("x 07", 2)
        for number in ("00", "01", "000", "00065535", "0" * 5000):
            self.assert_malformed(number, 0)

    def test_numbers_before_letters(self):
        for text in ("1a", "0x", "12_", "3Z", "65535e", "0let", "1_1"):
            self.assert_malformed(";" + text, 1)

    def test_the_first_error_counts(self):
        self.assert_malformed("a ? 07", 2)
        self.assert_malformed("a 07 ?", 2)
        self.assert_malformed("07x", 0)
        self.assert_malformed("x" * 21 + "?", 0)
        self.assert_malformed("1a ?", 0)

    def test_the_length_counts_first(self):
        with self.assertRaises(Oversized):
            tokens("?" + " " * 20000)
        self.assert_malformed("?" + " " * 19999, 0)


class NamesTest(unittest.TestCase):
    def test_names(self):
        for name in ("a", "Z", "x1", "x_", "Main", "lets", "x" * 20):
            self.assertIs(is_name(name), True, name)

    def test_other_strings(self):
        for text in ("", " ", "_", "_a", "1", "1a", "a b", "a ", " a", "a\n", "a-b", "a.b", "\xe9", "a\xe9",
                     "x\u0663", "x" * 21, "#a", "a#", "~a"):
            self.assertIs(is_name(text), False, text)

    def test_reserved_words(self):
        for word in WORDS:
            self.assertIs(is_name(word), False, word)

    def test_other_values(self):
        for value in (None, True, False, 0, 65535, b"a", ("a",), ["a"], {"a": 1}, 1.5, object(), str):
            self.assertIs(is_name(value), False, value)


if __name__ == "__main__":
    unittest.main()
