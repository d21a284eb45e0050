"""The first wrong part of words and of pairs of them, told by its path."""

from crossties.words import is_word


def is_list(value):
    """Tell whether a value, which may be anything, can stand for a list."""
    return isinstance(value, (list, tuple))


def wrong_word(values):
    """Return the number of the first value that is no word or stands earlier, or None."""
    earlier = {}
    for k, value in enumerate(values):
        if not is_word(value) or value in earlier:
            return k
        earlier[value] = True
    return None


def wrong_choice(values, known):
    """Return the number of the first value that is no key of known or stands earlier, or None."""
    earlier = {}
    for k, value in enumerate(values):
        if not is_word(value) or value not in known or value in earlier:
            return k
        earlier[value] = True
    return None


def wrong_member(pair, known):
    """Return the number of the first member of a pair that is no key of known, or None."""
    for j, member in enumerate(pair):
        # What is no word may be no key at all: a list cannot be looked up.
        if not is_word(member) or member not in known:
            return j
    return None


def wrong_pair(pairs, words):
    """Return the path of the first wrong part of pairs of two different words, or None."""
    known = {word: True for word in words}
    earlier = {}
    for k, pair in enumerate(pairs):
        if not isinstance(pair, tuple) or len(pair) != 2:
            return (k,)
        j = wrong_member(pair, known)
        if j is not None:
            return (k, j)
        one, other = pair
        if one == other or (one, other) in earlier:
            return (k,)
        earlier[(one, other)] = True
        earlier[(other, one)] = True
    return None


def wrong_part(words, pairs):
    """Return the path of the first wrong part of different words and of pairs of them, or None."""
    if not is_list(words):
        return (0,)
    k = wrong_word(words)
    if k is not None:
        return (0, k)
    if not is_list(pairs):
        return (1,)
    path = wrong_pair(pairs, words)
    return None if path is None else (1,) + path
