"""Crowds and maps of lots: S2.4, S2.7 and the interface, crossties/crowds.py."""

import itertools

from crossties.crowds import crowds_of, crowds_with, is_crowd, map_of_crowds
from crossties.errors import BadMade, NotGood, UnknownName
from crossties.longrings import long_ring_of
from crossties.maps import Map, joined_maps
from crossties.peelings import good

from tests import plain
from tests.samples import (
    BAD_MAPS, GOOD_MAPS, POSTS, Case, all_maps, all_small_maps, band, no_lists, no_posts, no_words, peeled_map,
    plain_map, ring_of_posts, words)


class ExampleTest(Case):
    def test_crowds_of_the_example(self):
        self.assert_same(crowds_of(peeled_map()), [("a", "b", "c"), ("b", "c", "d"), ("d", "e")])
        wanted = [[0], [0, 1], [0, 1], [1, 2], [2]]
        self.assert_same([crowds_with(peeled_map(), x) for x in POSTS], wanted)


class EmptyTest(Case):
    def test_no_posts(self):
        empty = Map([], [])
        self.assert_same(crowds_of(empty), [])
        self.assertIs(is_crowd(empty, ()), False)
        self.assertIs(map_of_crowds([], []) == empty, True)
        self.assertIs(map_of_crowds((), [[], ()]) == empty, True)
        for value in no_posts() + ["a"]:
            self.assert_raises(UnknownName, {"name": value}, crowds_with, empty, value)

    def test_no_ties(self):
        self.assert_same(crowds_of(plain_map(3)), [(x,) for x in words(3)])
        self.assertIs(is_crowd(plain_map(3), (words(3)[1],)), True)
        self.assert_same(crowds_with(plain_map(3), words(3)[2]), [2])


class SmallMapsTest(Case):
    def test_every_map_of_at_most_four_posts(self):
        for posts, ties in all_small_maps(4):
            made = Map(posts, ties)
            rows = plain.crowds(posts, ties)
            for many in range(5):
                for row in itertools.permutations(posts, many):
                    self.assert_same(is_crowd(made, row), row in rows)
            if good(made):
                self.assert_same(crowds_of(made), rows)
                for x in posts:
                    self.assert_same(crowds_with(made, x), [k for k, row in enumerate(rows) if x in row])

    def test_every_map_of_five_posts(self):
        for posts, ties in all_maps("caebd"):
            made = Map(posts, ties)
            rows = plain.crowds(posts, ties)
            if good(made):
                self.assert_same(crowds_of(made), rows)
            self.assert_same([row for row in plain.choices(posts) if is_crowd(made, row)],
                             [row for row in plain.choices(posts) if row in rows])
            self.assertIs(map_of_crowds(posts, rows) == made, True)


class CrowdsTest(Case):
    def test_ordered_by_numbers_not_by_letters(self):
        made = Map(["d", "b", "a", "c"], [("a", "b"), ("b", "c"), ("a", "d")])
        self.assert_same(crowds_of(made), [("d", "a"), ("b", "a"), ("b", "c")])
        posts = [f"p{k}" for k in range(16)]
        path = Map(posts, list(zip(posts, posts[1:])))
        self.assert_same(crowds_of(path), list(zip(posts, posts[1:])))

    def test_greater_maps(self):
        for made in GOOD_MAPS:
            rows = crowds_of(made)
            for row in rows:
                self.assertIs(is_crowd(made, row), True)
                self.assertIs(is_crowd(made, row[:-1]), False)
                self.assertIs(is_crowd(made, row[1:]), False)
            self.assertLessEqual(len(rows), len(made.posts()))
            self.assertIs(map_of_crowds(made.posts(), rows) == made, True)
            numbers = [[made.number(x) for x in row] for row in rows]
            self.assertEqual(numbers, sorted(numbers))

    def test_crowds_at_the_limits(self):
        posts = words(16)
        self.assert_same(crowds_of(band(16, 3, posts)), [tuple(posts[k:k + 4]) for k in range(13)])
        self.assert_same(crowds_of(band(16, 16, posts)), [tuple(posts)])
        star = Map(posts, [(x, posts[9]) for x in posts if x != posts[9]])
        wanted = [(x, posts[9]) for x in posts[:9]] + [(posts[9], x) for x in posts[10:]]
        self.assert_same(crowds_of(star), wanted)
        self.assert_same(crowds_with(star, posts[9]), list(range(15)))

    def test_several_pieces(self):
        made = joined_maps(band(3, 3, words(3)), joined_maps(Map(["x"], []), Map(["z", "y"], [("y", "z")])))
        self.assert_same(crowds_of(made), [tuple(words(3)), ("x",), ("z", "y")])

    def test_a_great_map(self):
        posts = words(2000)
        made = map_of_crowds(posts, [posts[k:k + 3] for k in range(0, 2000, 2)])
        self.assertEqual(len(crowds_of(made)), 1000)
        self.assert_same(crowds_with(made, posts[4]), [1, 2])

    def test_not_good(self):
        for made in BAD_MAPS:
            ring = long_ring_of(made)
            self.assert_raises(NotGood, {"ring": ring}, crowds_of, made)
            self.assert_raises(NotGood, {"ring": ring}, crowds_with, made, made.posts()[0])
            for value in no_posts():
                self.assert_raises(UnknownName, {"name": value}, crowds_with, made, value)

    def test_a_crowd_of_a_bad_map(self):
        made = ring_of_posts(4)
        a, b, c, d = made.posts()
        rows = [row for row in plain.choices(made.posts()) if is_crowd(made, row)]
        self.assert_same(rows, [(a, b), (a, d), (b, c), (c, d)])


class WrongValuesTest(Case):
    def test_what_is_no_crowd(self):
        made = peeled_map()
        right = ("b", "c", "d")
        values = [list(right), ("c", "b", "d"), right + ("d",), right + right, ("b", "b"), ("a", "b", "c", "d"), (right,),
                  ("b", "c"), ("a", "e"), "abc", "de", ("d",), ("e",)]
        for value in no_posts() + values:
            self.assertIs(is_crowd(made, value), False)
        for k, value in itertools.product(range(3), no_posts() + ["a", "b", "d"]):
            changed = right[:k] + (value,) + right[k + 1:]
            self.assertIs(is_crowd(made, changed), changed in crowds_of(made))

    def test_crowds_with(self):
        for value in no_posts():
            self.assert_raises(UnknownName, {"name": value}, crowds_with, peeled_map(), value)


class MapOfCrowdsTest(Case):
    def test_lots(self):
        posts = ["d", "b", "a", "c", "e"]
        lots = [["a", "b", "d"], ("c", "a"), [], ["b", "a"], ("a", "b", "d"), ["e"], ()]
        made = map_of_crowds(posts, lots)
        self.assert_same(made.posts(), posts)
        self.assert_same(made.ties(), [("d", "b"), ("d", "a"), ("b", "a"), ("a", "c")])
        self.assertIs(map_of_crowds(tuple(posts), tuple(lots)) == made, True)
        self.assert_same(map_of_crowds(posts, []).ties(), [])

    def test_the_map_need_not_be_good(self):
        lots = [("a", "b"), ("b", "c"), ("c", "d"), ("d", "a")]
        self.assertIs(good(map_of_crowds("a b c d".split(), lots)), False)

    def test_wrong_posts(self):
        for value in no_lists():
            self.assert_raises(BadMade, {"path": (0,)}, map_of_crowds, value, [])
            self.assert_raises(BadMade, {"path": (0,)}, map_of_crowds, value, value)
        for value in no_words() + ["a"]:
            self.assert_raises(BadMade, {"path": (0, 2)}, map_of_crowds, ["a", "b", value], [])
            self.assert_raises(BadMade, {"path": (0, 1)}, map_of_crowds, ("a", value, value), None)

    def test_wrong_lots(self):
        for value in no_lists():
            self.assert_raises(BadMade, {"path": (1,)}, map_of_crowds, POSTS, value)
            self.assert_raises(BadMade, {"path": (1, 1)}, map_of_crowds, POSTS, [("a",), value])
            self.assert_raises(BadMade, {"path": (1, 0)}, map_of_crowds, POSTS, (value, ["x"]))
        for value in no_posts() + ["a"]:
            self.assert_raises(BadMade, {"path": (1, 1, 2)}, map_of_crowds, POSTS, [("c",), ["a", "b", value]])
            self.assert_raises(BadMade, {"path": (1, 0, 1)}, map_of_crowds, POSTS, (("a", value, 7), None))

    def test_the_first_fault(self):
        faults = [
            (["a", "a"], 0, (0, 1)), (["a", ["b"]], [["x"]], (0, 1)), (["a"], {}, (1,)),
            (["a", "b"], [["a"], ["b", "b"], "a"], (1, 1, 1)), (["a", "b"], [["a"], "a", ["b", "b"]], (1, 1)),
            (["a", "b"], [["a", "b", "a", "x"]], (1, 0, 2)), (["a", "b"], [["a", "b", "x", "a"]], (1, 0, 2)),
            ([], [["a"]], (1, 0, 0)), ([], ["a"], (1, 0)), (["a"], [{"a": 1}], (1, 0)), (["a"], [["a"], [["a"]]], (1, 1, 0))]
        for posts, lots, path in faults:
            self.assert_raises(BadMade, {"path": path}, map_of_crowds, posts, lots)
