"""What several tests need: values of all kinds, small maps, and a strict check of errors."""

import itertools
import unittest

from crossties.maps import Map

POSTS = ["a", "b", "c", "d", "e"]
TIES = [("b", "a"), ("b", "c"), ("d", "c"), ("b", "d")]


def example():
    """The map M of part 1 of the document."""
    return Map(POSTS, TIES)


def deep(inner, depth=40):
    for _ in range(depth // 2):
        inner = ([inner],)
    return inner


def no_posts():
    """Values of all kinds, none of which is a post of a map with the posts a, b, c, d and e."""
    return [
        0, 1, -1, 10 ** 39, -(10 ** 39), True, False, None,
        "", " ", "A", "Ab", "1a", "0", "a ", " a", "\n", "\t", "a\n", "a\tb", "a-b", "a_b", "_a", "~", "ab,", "zz",
        "a" * 12, "a" * 13, "a" * 20000,
        (), ("a",), ("a", "b"), ["a"], [], [["a"]], {}, {"a": "b"}, {"a": ["a"]}, {1: ("a",)},
        Map([], []), example(), [example()], (example(), "a"), {"a": example()}, deep("a"), deep([]),
    ]


def no_words():
    """Values of all kinds, none of which is a word."""
    return [value for value in no_posts() if value not in ("zz", "a" * 12)]


def no_lists():
    """Values of all kinds, none of which is a list or a tuple."""
    return [value for value in no_posts() if not isinstance(value, (list, tuple))]


def ties_of(posts):
    return list(itertools.combinations(posts, 2))


def all_maps(posts):
    """All maps with these posts, as pairs of the posts and a list of the ties in order."""
    pairs = ties_of(posts)
    for many in range(len(pairs) + 1):
        for ties in itertools.combinations(pairs, many):
            yield list(posts), list(ties)


class Case(unittest.TestCase):
    """A test case that looks at the very class of an error and at all its attributes."""

    def assert_raises(self, kind, attributes, call, *arguments):
        try:
            value = call(*arguments)
        except Exception as error:
            # An error of another class is a failure here, and its own trace is worth more than a message.
            if type(error) is not kind:
                raise
            self.assertEqual(vars(error), attributes)
            for name in attributes:
                self.assertIs(type(vars(error)[name]), type(attributes[name]))
            return
        self.fail(f"{call} returned {value!r}")

    def assert_same(self, value, wanted):
        """Like assertEqual, but 1 is not True, and a tuple is not a list, at any depth."""
        self.assertIs(type(value), type(wanted))
        self.assertEqual(value, wanted)
        if isinstance(wanted, (list, tuple)):
            for part, wanted_part in zip(value, wanted):
                self.assert_same(part, wanted_part)
