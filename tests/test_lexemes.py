"""Lexemes: S1.5 and the interface, crossties/lexemes.py."""

import itertools
import re

from crossties.errors import BadText
from crossties.lexemes import lexemes

from tests.samples import Case

# At each place the alternatives are tried in this sequence; a word of more than 12 characters is none of them.
LEXEME = re.compile(r"(?P<word>[a-z][a-z0-9]{0,11}(?![a-z0-9]))|(?P<number>0|[1-9][0-9]*)|(?P<sign>[(){},;])")


def by_pattern(text):
    """The lexemes of a text as the pattern finds them, or the place of the first wrong character."""
    rows = []
    place = 0
    while True:
        while text[place:place + 1] in (" ", "\n"):
            place += 1
        if place == len(text):
            return rows
        match = LEXEME.match(text, place)
        if match is None:
            return place
        rows.append((match.lastgroup, match.group(), place))
        place = match.end()


class LexemesTest(Case):
    def test_the_examples(self):
        self.assert_same(lexemes("12ab"), [("number", "12", 0), ("word", "ab", 2)])
        self.assert_same(lexemes("007"), [("number", "0", 0), ("number", "0", 1), ("number", "7", 2)])
        self.assert_raises(BadText, {"place": 0}, lexemes, "abcdefghijklm")

    def test_empty_texts(self):
        for text in ["", " ", "\n", " \n\n  "]:
            self.assert_same(lexemes(text), [])

    def test_words(self):
        self.assert_same(lexemes("abcdefghijkl"), [("word", "abcdefghijkl", 0)])
        self.assert_same(lexemes(" a1b2 c"), [("word", "a1b2", 1), ("word", "c", 6)])
        self.assert_same(lexemes("a0\nz9"), [("word", "a0", 0), ("word", "z9", 3)])
        self.assert_same(lexemes("a00000000007"), [("word", "a00000000007", 0)])

    def test_numbers(self):
        self.assert_same(lexemes("10 100"), [("number", "10", 0), ("number", "100", 3)])
        self.assert_same(lexemes("0ab"), [("number", "0", 0), ("word", "ab", 1)])
        self.assert_same(lexemes("010"), [("number", "0", 0), ("number", "10", 1)])
        self.assert_same(lexemes("9" * 40), [("number", "9" * 40, 0)])
        self.assert_same(lexemes("1a2"), [("number", "1", 0), ("word", "a2", 1)])
        self.assert_same(lexemes("5,"), [("number", "5", 0), ("sign", ",", 1)])

    def test_signs(self):
        signs = "(){},;"
        self.assert_same(lexemes(signs), [("sign", sign, k) for k, sign in enumerate(signs)])
        self.assert_same(lexemes("a(b"), [("word", "a", 0), ("sign", "(", 1), ("word", "b", 2)])
        self.assert_same(lexemes("((;;"), [("sign", "(", 0), ("sign", "(", 1), ("sign", ";", 2), ("sign", ";", 3)])

    def test_each_other_character(self):
        for code in [9, 10] + list(range(32, 127)):
            char = chr(code)
            for ahead in ["", " ", "\n", "a ", "12", "(", "b;\n "]:
                text = ahead + char + " b"
                if char in " \n(){},;" or char.isdigit() or char.islower():
                    self.assert_same(lexemes(text), by_pattern(text))
                else:
                    self.assert_raises(BadText, {"place": len(ahead)}, lexemes, text)

    def test_the_first_of_several(self):
        self.assert_raises(BadText, {"place": 2}, lexemes, "a - - [")
        self.assert_raises(BadText, {"place": 3}, lexemes, "12,A A")
        self.assert_raises(BadText, {"place": 3}, lexemes, "ab\n" + "x" * 13 + " [")
        self.assert_raises(BadText, {"place": 1}, lexemes, "a\tb")

    def test_a_long_word_behind_a_number_or_a_sign(self):
        self.assert_raises(BadText, {"place": 2}, lexemes, "12" + "a" * 13)
        self.assert_raises(BadText, {"place": 1}, lexemes, "(" + "a" * 13)
        self.assert_same(lexemes("1" + "a" * 12), [("number", "1", 0), ("word", "a" * 12, 1)])

    def test_texts_of_twenty_thousand_characters(self):
        self.assert_same(lexemes("a " * 10000), [("word", "a", 2 * k) for k in range(10000)])
        self.assert_same(lexemes(";" * 20000), [("sign", ";", k) for k in range(20000)])
        self.assert_same(lexemes("0" * 20000), [("number", "0", k) for k in range(20000)])
        self.assert_same(lexemes("\n" * 20000), [])
        self.assert_raises(BadText, {"place": 0}, lexemes, "a" * 20000)
        self.assert_raises(BadText, {"place": 19999}, lexemes, ", " * 9999 + " [")

    def test_all_short_texts_against_a_pattern(self):
        for many in range(6):
            for chars in itertools.product("az09 \n(;A", repeat=many):
                self.agree("".join(chars))
        for many in range(10, 15):
            for chars in itertools.product("a1 ", repeat=4):
                self.agree("".join(chars[:2]) + "b" * many + "".join(chars[2:]))

    def agree(self, text):
        wanted = by_pattern(text)
        if isinstance(wanted, list):
            self.assertEqual(lexemes(text), wanted)
        else:
            self.assert_raises(BadText, {"place": wanted}, lexemes, text)
