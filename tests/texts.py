"""What the tests of texts have in common: the first wrong place by the words of S1.6.

One letter stands for a lexeme here: k for the word with which the form begins, w for any other word, n for a number.
"""

import itertools
import re

from crossties.errors import BadText

from tests.samples import Case

SIGNS = "(){},;"
ROWS = r"\{([kw][kw];)*\}"


class FormCase(Case):
    """The texts of one form: its first word, a pattern of all its texts, and what completes each beginning."""

    first = "map"
    whole = re.compile("")
    endings = []

    def read(self, text):
        raise NotImplementedError

    def wrong_place(self, letters, places, length):
        """The first wrong place of a text without characters that begin no lexeme, or None."""
        for n in range(len(letters)):
            if not any(self.whole.fullmatch(letters[:n + 1] + ending) for ending in self.endings):
                return places[n]
        return None if self.whole.fullmatch(letters) else length

    def laid_out(self, letters, gaps):
        """A text with these lexemes and gaps, the places of its lexemes, and its length."""
        lexeme = {"k": self.first, "w": "b1", "n": "20"}
        text = gaps[0]
        places = []
        for n, letter in enumerate(letters):
            places.append(len(text))
            text += lexeme.get(letter, letter) + gaps[(n + 1) % len(gaps)]
        return text, places, len(text)

    def agree(self, letters, gaps):
        if "" in gaps and re.search("[kwn][kwn]", letters):
            # Without a gap two words would be one.
            gaps = [" ", "\n"]
        text, places, length = self.laid_out(letters, gaps)
        place = self.wrong_place(letters, places, length)
        try:
            self.read(text)
            found = None
        except BadText as error:
            found = error.place
        except ValueError:
            # What a text tells wrongly is no wrong place.
            found = None
        self.assertEqual(found, place, text)

    def all_short_rows(self, most):
        for many in range(most + 1):
            for letters in itertools.product("kwn" + SIGNS, repeat=many):
                self.agree("".join(letters), [" "])

    def changes_of(self, whole):
        """Lexemes left out, put in, exchanged and cut off, one or two of them."""
        alphabet = ["", "k", "w", "n", *SIGNS]
        for n in range(len(whole) + 1):
            for letter in alphabet:
                for gaps in [[" "], ["", " \n"], ["\n", "  ", " "]]:
                    self.agree(whole[:n] + letter + whole[n:], gaps)
                    self.agree(whole[:n] + letter + whole[n + 1:], gaps)
                    self.agree(whole[:n] + letter, gaps)
        for n, m in itertools.combinations(range(len(whole)), 2):
            self.agree(whole[:n] + whole[n + 1:m] + whole[m + 1:], [" "])
            self.agree(whole[:n] + whole[m] + whole[n + 1:m] + whole[n] + whole[m + 1:], [" "])

    def cut_off(self, text):
        """A written text that ends too early is wrong at its end, or at the place of a word that was cut."""
        for n in range(len(text) - 1):
            for behind in ["", " ", "\n", " \n "]:
                place = 0 if 0 < n < len(self.first) else n + len(behind)
                self.assert_raises(BadText, {"place": place}, self.read, text[:n] + behind)

    def wrong_characters(self, text):
        for n in range(len(text) + 1):
            for char in "\tA-%~[_":
                # Within the first word, what is left of it ahead of the character is a word, but not this one.
                place = 0 if 0 < n < len(self.first) else n
                self.assert_raises(BadText, {"place": place}, self.read, text[:n] + char + text[n:])
