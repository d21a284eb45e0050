"""Words and numbers: 0.3 and the interface, crossties/words.py."""

from crossties.words import is_number, is_word

from tests.samples import Case, no_words


class WordsTest(Case):
    def test_words(self):
        for value in ["a", "z", "a0", "z9", "abc", "a1b2", "map", "a" * 12, "a12345678901", "abcdefghijkl", "true"]:
            self.assertIs(is_word(value), True, value)

    def test_no_words(self):
        for value in no_words():
            self.assertIs(is_word(value), False)

    def test_each_character(self):
        for code in range(128):
            char = chr(code)
            letter = "a" <= char <= "z"
            digit = "0" <= char <= "9"
            self.assertIs(is_word(char), letter)
            self.assertIs(is_word("a" + char), letter or digit)
            self.assertIs(is_word(char + "a"), letter)
            self.assertIs(is_word("a" * 11 + char), letter or digit)
            self.assertIs(is_word("a" * 12 + char), False)

    def test_numbers(self):
        for value in [0, 1, 2, 255, 10 ** 39]:
            self.assertIs(is_number(value), True)

    def test_no_numbers(self):
        for value in no_words() + ["a", "0", "12"]:
            if type(value) is not int or value < 0:
                self.assertIs(is_number(value), False)
        for value in [True, False, -1, -(10 ** 39), None, "", "1", (), (1,), [1], {1: 1}]:
            self.assertIs(is_number(value), False)
