"""What is passed is neither modified nor kept, and what is returned is new: 0.2."""

import copy

from crossties.crowds import crowds_of, crowds_with, is_crowd, map_of_crowds
from crossties.crowdtrees import count_crowd_trees, crowd_tree_of, judge_crowd_tree
from crossties.distances import distance, greatest_distance, judge_levels, levels
from crossties.errors import BadMade, BadMap, BadText, NotGood, UnknownName
from crossties.lexemes import lexemes
from crossties.longrings import all_long_rings, cross_ties, is_ring, judge_ring, long_ring_of
from crossties.maps import Map, both_near, map_without, part_map, pieces_of
from crossties.maptexts import map_text, read_map
from crossties.peelings import (
    all_peelings, can_peel, first_posts, good, judge_peeling, later_near, peeling_of)

from tests.samples import BAD_MAPS, GOOD_MAPS, POSTS, TIES, Case, example, peeled_map, ring_of_posts


class PassedTest(Case):
    def test_a_map_keeps_no_list(self):
        posts = list(POSTS)
        ties = list(TIES)
        made = Map(posts, ties)
        self.assertEqual((posts, ties), (POSTS, TIES))
        posts[0] = "x"
        posts.append("y")
        ties.clear()
        self.assertIs(made == example(), True)
        self.assert_same(made.posts(), POSTS)
        self.assert_same(made.near("a"), ["a", "b"])
        self.assert_same(made.number("a"), 0)

    def test_wrong_values_are_not_modified(self):
        posts = ["a", "b", ["c"], "a"]
        ties = [("a", "b"), ["a", "b"]]
        before = copy.deepcopy((posts, ties))
        for arguments in [(posts, ties), (posts[:2], ties), (ties, posts)]:
            with self.assertRaises(BadMap):
                Map(*arguments)
        self.assertEqual((posts, ties), before)

    def test_lists_of_posts_are_not_modified(self):
        chosen = ["d", "a", "b"]
        for function in [part_map, map_without]:
            function(example(), chosen)
            self.assertEqual(chosen, ["d", "a", "b"])
            with self.assertRaises(UnknownName):
                function(example(), chosen + [["a"]])

    def test_lots_are_neither_modified_nor_kept(self):
        posts = list(POSTS)
        lots = [["b", "a"], ["a", "c", "d"], [], ["b", "a"]]
        before = copy.deepcopy((posts, lots))
        made = map_of_crowds(posts, lots)
        self.assertEqual((posts, lots), before)
        posts.reverse()
        lots[0].append("e")
        lots.pop()
        self.assertIs(made == map_of_crowds(*before), True)
        wrong = [["a", "b"], ["a", ["b"]]]
        with self.assertRaises(BadMade):
            map_of_crowds(POSTS, wrong)
        self.assertEqual(wrong, [["a", "b"], ["a", ["b"]]])

    def test_judged_values_are_not_modified(self):
        values = [["a", "b"], (["a"], "b"), [("d", ["e"])], {"a": ["b"]}, [(0, 1), (1, 2)], [(0, [1])], ([1], None)]
        before = copy.deepcopy(values)
        for judge in [judge_peeling, is_ring, judge_ring, is_crowd, judge_crowd_tree]:
            for value in values:
                judge(peeled_map(), value)
        for value in values:
            judge_levels(peeled_map(), "a", value)
        self.assertEqual(values, before)

    def test_a_part_keeps_no_list(self):
        chosen = ["d", "b"]
        part = part_map(example(), chosen)
        chosen.append("a")
        self.assert_same(part.posts(), ["b", "d"])


class ReturnedTest(Case):
    def test_lists_are_new(self):
        made = example()
        calls = [
            made.posts, made.ties, lambda: made.near("b"), lambda: made.tied("b"), lambda: pieces_of(made),
            lambda: both_near(made, "b", "c"), lambda: lexemes("map (a)"), lambda: first_posts(made),
            lambda: all_peelings(made), lambda: later_near(made, tuple(POSTS)), lambda: crowds_of(made),
            lambda: crowds_with(made, "b"), lambda: crowd_tree_of(made), lambda: all_long_rings(ring_of_posts(4)),
            lambda: cross_ties(peeled_map(), ("a", "b", "d", "c"))]
        for call in calls:
            first = call()
            wanted = list(first)
            self.assertIsNot(first, call())
            first.append("x")
            first[0] = None
            self.assert_same(call(), wanted)
            first.clear()
            self.assert_same(call(), wanted)
        self.assertIs(made == example(), True)
        self.assertEqual(map_text(made), map_text(example()))

    def test_maps_are_not_changed_by_functions(self):
        made = example()
        part_map(made, ["a"])
        map_without(made, ["a"])
        read_map(map_text(made))
        self.assertIs(made == example(), True)

    def test_equal_maps_are_told_the_same(self):
        calls = [
            first_posts, good, peeling_of, all_long_rings, long_ring_of, crowds_of, crowd_tree_of, count_crowd_trees,
            greatest_distance, lambda made: crowds_with(made, made.posts()[0]),
            lambda made: can_peel(made, made.posts()[0]), lambda made: levels(made, made.posts()[0]),
            lambda made: distance(made, made.posts()[0], made.posts()[-1])]
        for made in GOOD_MAPS + BAD_MAPS:
            other = Map(tuple(made.posts()), [(y, x) for x, y in made.ties()[::-1]])
            for call in calls:
                if call is not all_long_rings or len(made.posts()) <= 8:
                    told = [self.value_or_ring(call, one) for one in [made, other, made]]
                    self.assert_same(told[1], told[0])
                    self.assert_same(told[2], told[0])

    def value_or_ring(self, call, made):
        try:
            return call(made)
        except NotGood as error:
            return "not good", error.ring

    def test_repeated_calls_agree(self):
        for _ in range(2):
            self.assert_same(pieces_of(example()), [("a", "b", "c", "d"), ("e",)])
            self.assert_raises(BadText, {"place": 4}, read_map, "map [ a")
            self.assert_raises(UnknownName, {"name": ["a"]}, example().near, ["a"])
