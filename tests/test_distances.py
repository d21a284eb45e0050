"""Distances and levels: S3.1, S3.2 and the interface, crossties/distances.py."""

import itertools

from crossties.distances import distance, greatest_distance, judge_levels, levels
from crossties.errors import UnknownName
from crossties.maps import Map, joined_maps

from tests import plain
from tests.samples import (
    GOOD_MAPS, POSTS, Case, all_maps, all_small_maps, band, levels_map, no_posts, plain_map, ring_of_posts, words)


class ExampleTest(Case):
    def test_levels_from_b(self):
        self.assert_same(levels(levels_map(), "b"), (1, 0, 1, 2, None))
        self.assert_same([distance(levels_map(), "b", y) for y in POSTS], [1, 0, 1, 2, None])
        self.assertIs(judge_levels(levels_map(), "b", (1, 0, 1, 2, None)), True)

    def test_a_post_by_itself(self):
        self.assert_same(levels(levels_map(), "e"), (None, None, None, None, 0))
        self.assert_same(distance(levels_map(), "e", "e"), 0)
        self.assert_same(greatest_distance(levels_map()), (2, "b", "d"))


class EmptyTest(Case):
    def test_no_posts(self):
        empty = Map([], [])
        self.assertIs(greatest_distance(empty), None)
        for value in no_posts() + ["a"]:
            self.assert_raises(UnknownName, {"name": value}, levels, empty, value)
            self.assert_raises(UnknownName, {"name": value}, distance, empty, value, "b")
            self.assert_raises(UnknownName, {"name": value}, judge_levels, empty, value, ())

    def test_no_ties(self):
        made = Map(["y", "x", "z"], [])
        self.assert_same(greatest_distance(made), (0, "y", "y"))
        self.assert_same(levels(made, "x"), (None, 0, None))
        self.assert_same(distance(made, "x", "z"), None)
        self.assert_same(greatest_distance(Map(["z"], [])), (0, "z", "z"))


class SmallMapsTest(Case):
    def test_every_question_on_every_small_map(self):
        for posts, ties in itertools.chain(all_small_maps(4), all_maps("caebd")):
            made = Map(posts, ties)
            wanted = plain.distances(posts, ties)
            for x in posts:
                row = tuple(wanted.get((x, y)) for y in posts)
                self.assert_same(levels(made, x), row)
                self.assertIs(judge_levels(made, x, row), True)
                self.assert_same(tuple(distance(made, x, y) for y in posts), row)
            if posts:
                greatest = max(wanted.values())
                first = [(greatest, x, y) for x in posts for y in posts if wanted.get((x, y)) == greatest][0]
                self.assert_same(greatest_distance(made), first)

    def test_every_tuple_that_might_be_levels(self):
        for posts, ties in all_maps("cab"):
            made = Map(posts, ties)
            for x in posts:
                for value in itertools.product([None, 0, 1, 2, 3, -1], repeat=3):
                    self.assert_same(judge_levels(made, x, value), value == levels(made, x))


class GreaterMapsTest(Case):
    def test_rows_and_rings_of_thirty_posts(self):
        posts = words(30)
        row = band(30, 1, posts)
        self.assert_same(levels(row, posts[0]), tuple(range(30)))
        self.assert_same(distance(row, posts[29], posts[3]), 26)
        self.assert_same(greatest_distance(row), (29, posts[0], posts[29]))
        ring = ring_of_posts(30)
        self.assert_same(levels(ring, posts[0]), tuple(range(16)) + tuple(range(14, 0, -1)))
        self.assert_same(greatest_distance(ring), (15, posts[0], posts[15]))
        self.assert_same(greatest_distance(band(30, 30, posts)), (1, posts[0], posts[1]))
        self.assert_same(greatest_distance(plain_map(30)), (0, posts[0], posts[0]))

    def test_the_greatest_one_within_any_piece(self):
        made = joined_maps(band(4, 2, words(4)), joined_maps(ring_of_posts(5, "q"), Map(list("xyz"), [("y", "x")])))
        self.assert_same(greatest_distance(made), (2, words(4)[0], words(4)[3]))
        made = joined_maps(Map(list("xyz"), [("y", "x")]), band(4, 1, words(4)))
        self.assert_same(greatest_distance(made), (3, words(4)[0], words(4)[3]))

    def test_both_directions(self):
        for made in GOOD_MAPS:
            wanted = plain.distances(made.posts(), made.ties())
            for x, y in itertools.product(made.posts(), repeat=2):
                self.assert_same(distance(made, x, y), wanted.get((x, y)))
                self.assert_same(distance(made, y, x), wanted.get((x, y)))

    def test_a_great_map_that_the_package_returned(self):
        posts = words(3000)
        row = band(3000, 1, posts)
        self.assert_same(levels(row, posts[10])[:12], (10, 9, 8, 7, 6, 5, 4, 3, 2, 1, 0, 1))
        self.assert_same(distance(row, posts[0], posts[2999]), 2999)
        self.assertIs(judge_levels(row, posts[0], tuple(range(3000))), True)


class WrongValuesTest(Case):
    def test_unknown_posts(self):
        made = levels_map()
        for value in no_posts():
            self.assert_raises(UnknownName, {"name": value}, levels, made, value)
            self.assert_raises(UnknownName, {"name": value}, distance, made, value, "a")
            self.assert_raises(UnknownName, {"name": value}, distance, made, "a", value)
            self.assert_raises(UnknownName, {"name": value}, distance, made, value, "zz")
            self.assert_raises(UnknownName, {"name": "zz"}, distance, made, "zz", value)
            for other in [(1, 0, 1, 2, None), (), value, [value]]:
                self.assert_raises(UnknownName, {"name": value}, judge_levels, made, value, other)

    def test_what_is_no_levels(self):
        made = levels_map()
        right = (1, 0, 1, 2, None)
        values = [list(right), right[:4], right + (None,), right + right, (right,), [right], (0, 1, 1, 1, None)]
        for value in no_posts() + values:
            self.assertIs(judge_levels(made, "b", value), False)
        for k, value in itertools.product(range(5), no_posts() + [0, 1, 2]):
            changed = right[:k] + (value,) + right[k + 1:]
            # True is no number, although Python finds it equal to 1.
            wanted = value == right[k] and not isinstance(value, bool)
            self.assertIs(judge_levels(made, "b", changed), wanted)

    def test_true_and_false_are_no_numbers(self):
        made = Map(["a", "b"], [("a", "b")])
        self.assertIs(judge_levels(made, "a", (0, 1)), True)
        for value in [(False, True), (0, True), (False, 1)]:
            self.assertIs(judge_levels(made, "a", value), False)
