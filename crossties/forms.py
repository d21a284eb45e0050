"""What the forms of texts have in common: reading them lexeme by lexeme, and writing them."""

from crossties.errors import BadText
from crossties.lexemes import lexeme_rows

LINE_ENDS = ("{", "}", ";")
NO_BLANK_AHEAD = (")", ",", ";")


class Reading:
    """A text that is being read; what the form does not allow next is the first wrong place."""

    def __init__(self, text):
        self._rows = lexeme_rows(text)
        self._at = 0

    def comes(self, lexeme):
        """Tell whether the next lexeme is this word or sign."""
        return self._rows[self._at][1] == lexeme

    def take_one_of(self, choice):
        """Read one of these words or signs, and return it."""
        _, found, place = self._rows[self._at]
        if found not in choice:
            raise BadText(place)
        self._at += 1
        return found

    def take(self, lexeme):
        """Read this very word or sign."""
        if not self.comes(lexeme):
            raise BadText(self._rows[self._at][2])
        self._at += 1

    def take_name(self):
        """Read any word, and return it."""
        kind, found, place = self._rows[self._at]
        if kind != "word":
            raise BadText(place)
        self._at += 1
        return found

    def take_names(self):
        """Read a LIST, and return the list of its names."""
        self.take("(")
        names = []
        if not self.comes(")"):
            names.append(self.take_name())
            while self.comes(","):
                self.take(",")
                names.append(self.take_name())
        self.take(")")
        return names

    def take_pairs(self):
        """Read any number of NAME NAME ; between { and }, and return the list of the pairs of names."""
        self.take("{")
        pairs = []
        while not self.comes("}"):
            one = self.take_name()
            other = self.take_name()
            self.take(";")
            pairs.append((one, other))
        self.take("}")
        return pairs

    def take_end(self):
        """Make sure that nothing comes any more."""
        kind, _, place = self._rows[self._at]
        if kind != "end":
            raise BadText(place)


def list_lexemes(names):
    """Return the lexemes of the LIST of some names."""
    row = ["("]
    for k, name in enumerate(names):
        if k > 0:
            row.append(",")
        row.append(name)
    row.append(")")
    return row


def pair_lexemes(pairs):
    """Return the lexemes of NAME NAME ; for each pair, between { and }."""
    row = ["{"]
    for one, other in pairs:
        row.extend([one, other, ";"])
    row.append("}")
    return row


def gap_between(left, right):
    """Return what a written text has between two lexemes."""
    if left in LINE_ENDS:
        return "\n"
    if left == "(" or right in NO_BLANK_AHEAD:
        return ""
    return " "


def written(row):
    """Return the written text of some lexemes, of which the last one is }."""
    # All forms end with }, and a line feed stands behind it, whatever would come next.
    ahead = row[1:] + [""]
    return "".join([left + gap_between(left, right) for left, right in zip(row, ahead)])
