"""What is passed is neither modified nor kept, and what is returned is new: 0.2."""

import copy

from crossties.errors import BadMap, BadText, UnknownName
from crossties.lexemes import lexemes
from crossties.maps import Map, both_near, map_without, part_map, pieces_of
from crossties.maptexts import map_text, read_map

from tests.samples import POSTS, TIES, Case, example


class PassedTest(Case):
    def test_a_map_keeps_no_list(self):
        posts = list(POSTS)
        ties = list(TIES)
        made = Map(posts, ties)
        self.assertEqual((posts, ties), (POSTS, TIES))
        posts[0] = "x"
        posts.append("y")
        ties.clear()
        self.assertIs(made == example(), True)
        self.assert_same(made.posts(), POSTS)
        self.assert_same(made.near("a"), ["a", "b"])
        self.assert_same(made.number("a"), 0)

    def test_wrong_values_are_not_modified(self):
        posts = ["a", "b", ["c"], "a"]
        ties = [("a", "b"), ["a", "b"]]
        before = copy.deepcopy((posts, ties))
        for arguments in [(posts, ties), (posts[:2], ties), (ties, posts)]:
            with self.assertRaises(BadMap):
                Map(*arguments)
        self.assertEqual((posts, ties), before)

    def test_lists_of_posts_are_not_modified(self):
        chosen = ["d", "a", "b"]
        for function in [part_map, map_without]:
            function(example(), chosen)
            self.assertEqual(chosen, ["d", "a", "b"])
            with self.assertRaises(UnknownName):
                function(example(), chosen + [["a"]])

    def test_a_part_keeps_no_list(self):
        chosen = ["d", "b"]
        part = part_map(example(), chosen)
        chosen.append("a")
        self.assert_same(part.posts(), ["b", "d"])


class ReturnedTest(Case):
    def test_lists_are_new(self):
        made = example()
        calls = [
            made.posts, made.ties, lambda: made.near("b"), lambda: made.tied("b"), lambda: pieces_of(made),
            lambda: both_near(made, "b", "c"), lambda: lexemes("map (a)")]
        for call in calls:
            first = call()
            wanted = list(first)
            self.assertIsNot(first, call())
            first.append("x")
            first[0] = None
            self.assert_same(call(), wanted)
            first.clear()
            self.assert_same(call(), wanted)
        self.assertIs(made == example(), True)
        self.assertEqual(map_text(made), map_text(example()))

    def test_maps_are_not_changed_by_functions(self):
        made = example()
        part_map(made, ["a"])
        map_without(made, ["a"])
        read_map(map_text(made))
        self.assertIs(made == example(), True)

    def test_repeated_calls_agree(self):
        for _ in range(2):
            self.assert_same(pieces_of(example()), [("a", "b", "c", "d"), ("e",)])
            self.assert_raises(BadText, {"place": 4}, read_map, "map [ a")
            self.assert_raises(UnknownName, {"name": ["a"]}, example().near, ["a"])
