import random
import re
import unittest

from figureclaims.lexemes import lexemes
from tests.helpers import place_of

PATTERN = re.compile(r"[a-z][a-z0-9]*|0|[1-9][0-9]*|[{};,/-]|[ \n]")


def expected(text):
    """The lexemes by another way, or the place of the first wrong character."""
    found = []
    at = 0
    while at < len(text):
        match = PATTERN.match(text, at)
        if match is None or (match.group()[0].isalpha() and len(match.group()) > 12):
            return at
        lexeme = match.group()
        if lexeme not in " \n":
            sort = "word" if lexeme[0].isalpha() else "numeral" if lexeme[0].isdigit() else "sign"
            found.append((sort, lexeme, at))
        at = match.end()
    return found


class LexemesTest(unittest.TestCase):
    def short(self, text):
        return [lexeme for _, lexeme, _ in lexemes(text)]

    def test_no_lexemes(self):
        for text in ["", " ", "\n", " \n \n\n  "]:
            self.assertEqual(lexemes(text), [])

    def test_sorts_and_places(self):
        self.assertEqual(
            lexemes("way a0 {\n-12;/0,}"),
            [("word", "way", 0), ("word", "a0", 4), ("sign", "{", 7), ("sign", "-", 9),
             ("numeral", "12", 10), ("sign", ";", 12), ("sign", "/", 13), ("numeral", "0", 14),
             ("sign", ",", 15), ("sign", "}", 16)],
        )

    def test_kinds_of_what_is_returned(self):
        told = lexemes("a 1 ;")
        self.assertIs(type(told), list)
        for one in told:
            self.assertIs(type(one), tuple)
            self.assertEqual([type(part) for part in one], [str, str, int])
        self.assertIsNot(lexemes("a"), lexemes("a"))

    def test_words(self):
        self.assertEqual(self.short("abcdefghijkl"), ["abcdefghijkl"])
        self.assertEqual(self.short("a12345678901 b"), ["a12345678901", "b"])
        self.assertEqual(place_of(lexemes, "abcdefghijklm"), 0)
        self.assertEqual(place_of(lexemes, "a a123456789012"), 2)
        self.assertEqual(place_of(lexemes, ";abcdefghijkl0;"), 1)
        self.assertEqual(self.short("abcdefghijkl;abcdefghijkl"), ["abcdefghijkl", ";", "abcdefghijkl"])

    def test_numerals(self):
        self.assertEqual(lexemes("007"), [("numeral", "0", 0), ("numeral", "0", 1), ("numeral", "7", 2)])
        self.assertEqual(lexemes("2a"), [("numeral", "2", 0), ("word", "a", 1)])
        self.assertEqual(self.short("10 0 00 100 90a0 0a 5-3"),
                         ["10", "0", "0", "0", "100", "90", "a0", "0", "a", "5", "-", "3"])
        self.assertEqual(self.short("1234567890123456789"), ["1234567890123456789"])
        self.assertEqual(lexemes("12abcdefghijkl"), [("numeral", "12", 0), ("word", "abcdefghijkl", 2)])
        self.assertEqual(place_of(lexemes, "12abcdefghijklm"), 2)

    def test_long_numerals(self):
        for long in ["9" * 5000, "1" + "0" * 4999, "7" * 200000]:
            self.assertEqual(lexemes(long), [("numeral", long, 0)])
            self.assertEqual(lexemes("a" + " " + long)[1], ("numeral", long, 2))
        self.assertEqual(len(lexemes("0" * 5000)), 5000)

    def test_what_begins_no_lexeme(self):
        for sign in "\t()[]<>=+*.:_\"'#!?@$%^&|\\~`ABZ":
            self.assertEqual(place_of(lexemes, sign), 0, sign)
            self.assertEqual(place_of(lexemes, "a " + sign + sign + " b"), 2, sign)
            self.assertEqual(place_of(lexemes, "ab" + sign + "c"), 2, sign)
            self.assertEqual(place_of(lexemes, " \n12" + sign), 4, sign)
        self.assertEqual(place_of(lexemes, "a ( ["), 2)
        self.assertEqual(place_of(lexemes, "a12345678901( abcdefghijklm"), 12)

    def test_many_texts(self):
        source = random.Random(11)
        for _ in range(3000):
            text = "".join([source.choice("aabz0017 \n{};,/-\tA(") for _ in range(source.randrange(30))])
            told = expected(text)
            if isinstance(told, int):
                self.assertEqual(place_of(lexemes, text), told, text)
            else:
                self.assertEqual(lexemes(text), told, text)

    def test_great_texts(self):
        self.assertEqual(len(lexemes("a " * 100000)), 100000)
        self.assertEqual(place_of(lexemes, " " * 199999 + "("), 199999)
        self.assertEqual(place_of(lexemes, "a" * 200000), 0)
