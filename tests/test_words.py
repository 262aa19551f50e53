import random
import unittest

from helpers import KEYWORDS, Unchanged, joined, random_statement
from pastamended.values import MOST, write_value
from pastamended.words import words

SIGNS = ["(", ")", ",", ".", "+", "-", "*", "=", "<>", "<", "<=", ">", ">="]


class WordsTest(unittest.TestCase):
    def check(self, text, *expected):
        self.assertEqual(words(text), list(expected))

    def test_example(self):
        self.check("at 7 <=?", ("keyword", "at", 0), ("number", 7, 3), ("sign", "<=", 5), ("bad", "", 7))

    def test_no_words(self):
        self.check("")
        self.check("  \n \n")

    def test_keywords(self):
        self.assertEqual(len(KEYWORDS), 35)
        for word in KEYWORDS:
            self.check(word, ("keyword", word, 0))
            self.check(f" {word}s", ("name", word + "s", 1))
            self.check(f"{word}_", ("name", word + "_", 0))
            self.check(f"a{word}", ("name", "a" + word, 0))

    def test_names(self):
        for name in ("a", "z", "abc", "a1", "a_b_", "x9_9", "selects", "integer", "true"):
            self.check(name, ("name", name, 0))
        self.check("a" * 20, ("name", "a" * 20, 0))
        self.check("a" * 21, ("bad", "", 0))
        self.check("b a_3456789_123456789", ("name", "b", 0), ("name", "a_3456789_123456789", 2))
        self.check("b a_3456789_1234567890z c", ("name", "b", 0), ("bad", "", 2))

    def test_numbers(self):
        self.check("0", ("number", 0, 0))
        self.check("007", ("number", 7, 0))
        self.check("0" * 30, ("number", 0, 0))
        self.check("0" * 31, ("bad", "", 0))
        self.check("0" * 11 + str(MOST), ("number", MOST, 0))
        self.check("0" * 12 + str(MOST), ("bad", "", 0))
        self.check(str(MOST), ("number", MOST, 0))
        self.check(str(MOST + 1), ("bad", "", 0))
        self.check(str(MOST - 1) + " " + str(MOST + 1) + " 1", ("number", MOST - 1, 0), ("bad", "", 19))
        self.check("9" * 6000, ("bad", "", 0))

    def test_texts(self):
        self.check('""', ("text", "", 0))
        self.check('"a b"', ("text", "a b", 0))
        self.check('"from"', ("text", "from", 0))
        self.check('"' + "x" * 40 + '"', ("text", "x" * 40, 0))
        self.check('"' + "x" * 41 + '"', ("bad", "", 0))
        self.check('a "b', ("name", "a", 0), ("bad", "", 2))
        self.check('"', ("bad", "", 0))
        self.check('"a\nb"', ("bad", "", 0))
        self.check('"a"\n"b"', ("text", "a", 0), ("text", "b", 4))
        self.check('"a""b"', ("text", "a", 0), ("text", "b", 3))
        self.check('"a"b"', ("text", "a", 0), ("name", "b", 3), ("bad", "", 4))
        self.check('"~ !#$&\'()\\"', ("text", "~ !#$&'()\\", 0))

    def test_signs(self):
        for sign in SIGNS:
            self.check(f"{sign}a", ("sign", sign, 0), ("name", "a", len(sign)))
        self.check("<><=>=<>", *[("sign", sign, 2 * at) for at, sign in enumerate(["<>", "<=", ">=", "<>"])])
        self.check("<=>", ("sign", "<=", 0), ("sign", ">", 2))
        self.check("=<>", ("sign", "=", 0), ("sign", "<>", 1))
        self.check("><", ("sign", ">", 0), ("sign", "<", 1))
        self.check("==", ("sign", "=", 0), ("sign", "=", 1))
        self.check("< =", ("sign", "<", 0), ("sign", "=", 2))

    def test_side_by_side(self):
        self.check("12ab", ("number", 12, 0), ("name", "ab", 2))
        self.check("12from", ("number", 12, 0), ("keyword", "from", 2))
        self.check("ab12", ("name", "ab12", 0))
        self.check('a"b"1', ("name", "a", 0), ("text", "b", 1), ("number", 1, 4))
        self.check("t.a", ("name", "t", 0), ("sign", ".", 1), ("name", "a", 2))
        self.check("-1", ("sign", "-", 0), ("number", 1, 1))
        self.check("at\n5", ("keyword", "at", 0), ("number", 5, 3))

    def test_bad_characters(self):
        for text in ("A", "_a", "?", "!", "'", ":", ";", "[", "{", "#", "/", "&", "\\", "~"):
            self.check(text, ("bad", "", 0))
            self.check(f"b {text} c", ("name", "b", 0), ("bad", "", 2))
        self.check("aB", ("name", "a", 0), ("bad", "", 1))

    def test_written_values_are_words(self):
        for value in (0, 7, MOST, "", "a b", "x" * 40, "from", "(~'\\", "12"):
            sort = "text" if isinstance(value, str) else "number"
            self.check(write_value(value), (sort, value, 0))

    def test_random_rows_of_words(self):
        source = random.Random(6)
        for _ in range(300):
            row, _ = random_statement(source)
            text, places = joined(row, source)
            found = Unchanged(self)(words, text)
            self.assertEqual([place for _, _, place in found], places, text)
            self.assertEqual([words(word)[0][:2] for word in row], [word[:2] for word in found])


if __name__ == "__main__":
    unittest.main()
