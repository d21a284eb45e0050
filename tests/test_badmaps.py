"""The first wrong part of what should be a map: S1.7."""

import itertools

from crossties.errors import BadMap
from crossties.maps import Map

from tests.samples import Case, deep, example, no_lists, no_posts, no_words


class PostsTest(Case):
    def test_posts_that_are_no_list(self):
        for value in no_lists() + ["a", "abc"]:
            for ties in [[], None, [("a", "b")], [3]]:
                self.assert_raises(BadMap, {"path": (0,)}, Map, value, ties)

    def test_posts_that_are_no_words(self):
        for value in no_words():
            self.assert_raises(BadMap, {"path": (0, 0)}, Map, [value], [])
            self.assert_raises(BadMap, {"path": (0, 1)}, Map, ("a", value), [])
            self.assert_raises(BadMap, {"path": (0, 2)}, Map, ["a", "b", value, "a", "B"], None)

    def test_posts_that_stand_earlier(self):
        self.assert_raises(BadMap, {"path": (0, 1)}, Map, ["a", "a"], [])
        self.assert_raises(BadMap, {"path": (0, 2)}, Map, ["a", "b", "a", "b", 3], [("a", "a")])
        self.assert_raises(BadMap, {"path": (0, 3)}, Map, ("a", "b", "c", "c"), None)

    def test_the_last_of_many_posts(self):
        posts = [f"p{k}" for k in range(30)]
        for value in ["p0", "p29", None]:
            self.assert_raises(BadMap, {"path": (0, 30)}, Map, posts + [value], [])


class TiesTest(Case):
    def test_ties_that_are_no_list(self):
        for value in no_lists() + ["ab"]:
            self.assert_raises(BadMap, {"path": (1,)}, Map, ["a", "b"], value)
            self.assert_raises(BadMap, {"path": (1,)}, Map, [], value)

    def test_a_tie_that_is_no_pair(self):
        wrong = [
            None, True, 0, "", "ab", {}, {"a": "b"}, [], ["a", "b"], (), ("a",), ("a", "b", "c"), ("a", "b", "a"),
            [("a", "b")], example(), deep("a")]
        for value in wrong:
            self.assert_raises(BadMap, {"path": (1, 0)}, Map, ["a", "b", "c"], [value])
            self.assert_raises(BadMap, {"path": (1, 1)}, Map, ["a", "b", "c"], (("b", "a"), value))

    def test_a_pair_of_words_is_no_list_of_ties(self):
        self.assert_raises(BadMap, {"path": (1, 0)}, Map, ["a", "b"], ("a", "b"))

    def test_a_member_that_is_no_post(self):
        posts = ["a", "b", "c", "d", "e"]
        for value in no_posts() + ["f"]:
            self.assert_raises(BadMap, {"path": (1, 0, 0)}, Map, posts, [(value, "a")])
            self.assert_raises(BadMap, {"path": (1, 0, 1)}, Map, posts, [("a", value)])
            self.assert_raises(BadMap, {"path": (1, 0, 0)}, Map, posts, [(value, value)])
            self.assert_raises(BadMap, {"path": (1, 2, 1)}, Map, posts, [("a", "b"), ("a", "c"), ("e", value), 3])

    def test_every_member_is_wrong_without_posts(self):
        self.assert_raises(BadMap, {"path": (1, 0, 0)}, Map, [], [("a", "a")])
        self.assert_raises(BadMap, {"path": (1, 0)}, Map, [], ["a"])

    def test_the_same_post_twice(self):
        self.assert_raises(BadMap, {"path": (1, 0)}, Map, ["a", "b"], [("a", "a")])
        self.assert_raises(BadMap, {"path": (1, 1)}, Map, ["a", "b"], [("a", "b"), ("b", "b")])

    def test_an_earlier_tie_in_whichever_sequence(self):
        for again in [("a", "b"), ("b", "a")]:
            self.assert_raises(BadMap, {"path": (1, 1)}, Map, ["a", "b"], [("a", "b"), again])
            self.assert_raises(BadMap, {"path": (1, 2)}, Map, ["b", "c", "a"], [("b", "a"), ("c", "a"), again])


class FirstOfSeveralTest(Case):
    def test_all_of_a_tie_is_asked_before_the_next_one(self):
        posts = ["a", "b", "c"]
        faults = [
            (3, (1, 0)), (("x", "a"), (1, 0, 0)), (("a", []), (1, 0, 1)), (("b", "b"), (1, 0)), ([], (1, 0))]
        for one, path in faults:
            for other, _ in faults:
                self.assert_raises(BadMap, {"path": path}, Map, posts, [one, other])
                self.assert_raises(BadMap, {"path": path}, Map, posts, (one, ("a", "b"), other))

    def test_every_pair_of_faults_in_their_order(self):
        posts = ["a", "b", "c", "d"]
        ties = [("a", "b"), ("c", "b"), ("d", "a")]
        faults = [((0, k), k, value) for k in range(4) for value in ["", None]]
        faults += [((1, k), k, value) for k in range(3) for value in [(), ["a", "b"], ("c", "c")]]
        faults += [((1, k, 0), k, (7, "q")) for k in range(3)] + [((1, k, 1), k, ("a", "q")) for k in range(3)]
        for (one, i, first), (other, j, second) in itertools.product(faults, repeat=2):
            if one[:2] == other[:2]:
                continue
            parts = [list(posts), list(ties)]
            parts[one[0]][i] = first
            parts[other[0]][j] = second
            self.assert_raises(BadMap, {"path": min(one, other)}, Map, *parts)

    def test_posts_come_ahead_of_ties(self):
        for ties in [None, [3], [("a", "a")], [("x", "y")]]:
            self.assert_raises(BadMap, {"path": (0, 1)}, Map, ["a", 3], ties)
            self.assert_raises(BadMap, {"path": (0,)}, Map, None, ties)

    def test_a_repeated_call_raises_an_equal_error(self):
        for _ in range(3):
            self.assert_raises(BadMap, {"path": (1, 1, 0)}, Map, ["a", "b"], [("a", "b"), (None, "a")])
