"""Words and numbers."""

LETTERS = "abcdefghijklmnopqrstuvwxyz"
DIGITS = "0123456789"
WORD_CHARS = "abcdefghijklmnopqrstuvwxyz0123456789"
LONGEST_WORD = 12


def is_word(value):
    """Tell whether a value, which may be anything, is a word."""
    if not isinstance(value, str) or value == "" or len(value) > LONGEST_WORD:
        return False
    return value[0] in LETTERS and all([char in WORD_CHARS for char in value])


def is_whole(value):
    """Tell whether a value, which may be anything, is an integer."""
    # Python counts True and False among the integers, the document does not.
    return isinstance(value, int) and not isinstance(value, bool)


def is_number(value):
    """Tell whether a value, which may be anything, is an integer of at least 0."""
    return is_whole(value) and value >= 0
