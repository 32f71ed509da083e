"""Promises [280] and [281]: lines, their words, names, numbers and texts."""

import unittest

from foldfloor import lines
from foldfloor.errors import NotWord


class Words(unittest.TestCase):
    def test_lines(self):
        plain = "".join(chr(code) for code in range(33, 127) if code != 37)
        for line, told in (("a", ["a"]), ("floor f 3 4 2", ["floor", "f", "3", "4", "2"]), ("-", ["-"]),
                           ("word w -", ["word", "w", "-"]), (plain, [plain]), ("! ~", ["!", "~"]),
                           ("x " * 99 + "x", ["x"] * 100), ("A /\\ \"'", ["A", "/\\", "\"'"])):
            self.assertEqual(lines.words_of(line), told)

    def test_malformed_lines(self):
        for line in ("", " ", "  ", " a", "a ", " a b", "a b ", "a  b", "a   b", "a\n", "\na", "a\nb", "a\tb", "\t",
                     "a%", "%", "a %", "a\x7f", "\x1f", "a\r", "a b\x0b", "\u00e9", "a\u2028b", "a\u00a0b", "\x00"):
            self.assertIsNone(lines.words_of(line), repr(line))

    def test_each_character(self):
        for code in list(range(0, 300)) + [0x2028, 0x3000, 0x1f600]:
            told = ["a" + chr(code)] if 33 <= code <= 126 and code != 37 else None
            self.assertEqual(lines.words_of("a" + chr(code)), told)

    def test_lists_are_not_shared(self):
        lines.words_of("a b").clear()
        self.assertEqual(lines.words_of("a b"), ["a", "b"])


class Names(unittest.TestCase):
    def test_lengths(self):
        for many, told in ((0, False), (1, True), (2, True), (11, True), (12, True), (13, False), (26, False)):
            self.assertIs(lines.is_name("a" * many), told)
            self.assertIs(lines.is_name("abcdefghijklmnopqrstuvwxyz"[-many:] if many else ""), told)

    def test_characters(self):
        for code in range(0, 300):
            told = ord("a") <= code <= ord("z")
            self.assertIs(lines.is_name(chr(code)), told)
            self.assertIs(lines.is_name("ab" + chr(code) + "c"), told)
        for word in ("A", "aB", "a1", "1", "a-b", "a_b", "a b", "-", "\u00e9", "\u00df", "a\n"):
            self.assertIs(lines.is_name(word), False)


class Numbers(unittest.TestCase):
    def test_numbers(self):
        for number in range(100):
            self.assertEqual(lines.number_in(str(number)), number)

    def test_other_words(self):
        for word in ("100", "101", "999", "00", "07", "000", "010", "-1", "-0", "+1", "+7", "1.0", "1e1", "a", "0x1",
                     "",
                     " 1", "1 ", "1_0", "-", "--", "\u0663", "\u00b2", "1" * 400):
            self.assertIsNone(lines.number_in(word), word)


class Texts(unittest.TestCase):
    def test_texts(self):
        for word, text in (("", "-"), ("0", "0"), ("012", "012"), ("00", "00"), ("012" * 20, "012" * 20)):
            self.assertEqual(lines.text_of(word), text)
            self.assertEqual(lines.word_in(text), word)

    def test_wrong_words(self):
        for word in ("-", "3", "01-", "a", " ", "0 1", "0" * 61, "012" * 30, "\n"):
            self.assertRaises(NotWord, lines.text_of, word)

    def test_wrong_texts(self):
        for text in ("", "--", "-0", "0-", "3", "a", " ", "0 1", "0" * 61, "012" * 30, "-\n", "empty"):
            self.assertRaises(NotWord, lines.word_in, text)


if __name__ == "__main__":
    unittest.main()
