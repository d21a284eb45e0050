"""The lexemes of texts: words, numbers and signs."""

from crossties.errors import BadText
from crossties.words import DIGITS, LETTERS, LONGEST_WORD, WORD_CHARS

SIGNS = "(){},;"
GAPS = " \n"


def run_at(text, place, chars):
    """Return the longest piece of a text from a place on that has only these characters."""
    end = place
    while end < len(text) and text[end] in chars:
        end += 1
    return text[place:end]


def lexeme_at(text, place):
    """Return the sort and the lexeme that begins at a place; the sort is "wrong" if none begins there."""
    first = text[place]
    if first in LETTERS:
        word = run_at(text, place, WORD_CHARS)
        return ("word", word) if len(word) <= LONGEST_WORD else ("wrong", "")
    if first == "0":
        return ("number", first)
    if first in DIGITS:
        return ("number", run_at(text, place, DIGITS))
    if first in SIGNS:
        return ("sign", first)
    return ("wrong", "")


def lexeme_rows(text):
    """Return the lexemes of a text as far as they go, as triples, and one row more.

    This last row has the sort "wrong" and the place of the first character that begins no lexeme,
    or the sort "end" and the length of the text. So what reads a form finds a place in each row.
    """
    rows = []
    place = 0
    while place < len(text):
        if text[place] in GAPS:
            place += 1
        else:
            kind, lexeme = lexeme_at(text, place)
            rows.append((kind, lexeme, place))
            if kind == "wrong":
                return rows
            place += len(lexeme)
    rows.append(("end", "", len(text)))
    return rows


def lexemes(text):
    """Return the list of the lexemes of a text, as tuples (sort, lexeme, place)."""
    rows = lexeme_rows(text)
    kind, _, place = rows.pop()
    if kind == "wrong":
        raise BadText(place)
    return rows
