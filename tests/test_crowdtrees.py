"""Crowd trees: S2.5, S2.6 and the interface, crossties/crowdtrees.py."""

import itertools

from crossties.crowds import crowds_of
from crossties.crowdtrees import count_crowd_trees, crowd_tree_of, judge_crowd_tree
from crossties.errors import NotGood
from crossties.longrings import long_ring_of
from crossties.maps import Map, joined_maps, pieces_of
from crossties.peelings import good

from tests import plain
from tests.samples import (
    BAD_MAPS, GOOD_MAPS, Case, all_maps, all_small_maps, band, grown_map, no_posts, peeled_map, plain_map, ring_of_posts,
    words)


def star(many, hub):
    posts = words(many)
    return Map(posts, [(posts[hub], x) for x in posts if x != posts[hub]])


class ExampleTest(Case):
    def test_the_only_crowd_tree(self):
        made = peeled_map()
        self.assert_same(crowd_tree_of(made), [(0, 1), (1, 2)])
        for value in [[(0, 1), (1, 2)], ((1, 2), (0, 1))]:
            self.assertIs(judge_crowd_tree(made, value), True)
        self.assert_same(count_crowd_trees(made), 1)
        for value in [[(0, 1)], [(1, 2)], [], [(0, 1), (0, 2)], [(0, 2), (1, 2)], [(0, 1), (1, 2), (0, 2)]]:
            self.assertIs(judge_crowd_tree(made, value), False)


class EmptyTest(Case):
    def test_no_crowds_or_one(self):
        for many in [0, 1]:
            self.assert_same(crowd_tree_of(plain_map(many)), [])
            self.assert_same(count_crowd_trees(plain_map(many)), 1)
            for value in no_posts() + [[(0, 1)], [(0, 0)]]:
                self.assertIs(judge_crowd_tree(plain_map(many), value), value in ([], ()))

    def test_no_ties(self):
        self.assert_same(crowd_tree_of(plain_map(16)), [])
        self.assert_same(count_crowd_trees(plain_map(16)), 1)
        self.assertIs(judge_crowd_tree(plain_map(2), []), True)
        self.assertIs(judge_crowd_tree(plain_map(2), [(0, 1)]), False)


class SmallMapsTest(Case):
    def test_every_map_of_at_most_four_posts(self):
        for posts, ties in all_small_maps(4):
            made = Map(posts, ties)
            many = len(plain.crowds(posts, ties))
            pairs = list(itertools.combinations(range(many), 2))
            trees = plain.crowd_trees(posts, ties)
            self.assert_same(trees != [], good(made))
            for chosen in itertools.chain(*[itertools.combinations(pairs, k) for k in range(min(4, len(pairs) + 1))]):
                self.assert_same(judge_crowd_tree(made, chosen), chosen in trees)
                self.assert_same(judge_crowd_tree(made, list(chosen[::-1])), chosen in trees)
            if trees:
                self.assertIn(tuple(sorted(crowd_tree_of(made))), trees)
                self.assert_same(count_crowd_trees(made), len(trees))

    def test_good_maps_of_five_posts(self):
        for posts, ties in all_maps("caebd"):
            made = Map(posts, ties)
            if good(made):
                trees = plain.crowd_trees(posts, ties)
                self.assertIn(tuple(sorted(crowd_tree_of(made))), trees)
                self.assert_same(count_crowd_trees(made), len(trees))


class GreaterMapsTest(Case):
    def test_crowd_trees(self):
        for made in GOOD_MAPS:
            rows = crowds_of(made)
            tree = crowd_tree_of(made)
            self.assertIs(type(tree), list)
            self.assertTrue(plain.is_crowd_tree(made.posts(), rows, tree))
            self.assertEqual(len(tree), len(rows) - len(pieces_of(made)))
            self.assertTrue(all(i < j for i, j in tree))
            self.assertIs(judge_crowd_tree(made, tree), True)
            self.assertIs(judge_crowd_tree(made, tuple(tree[::-1])), True)
            self.assertGreaterEqual(count_crowd_trees(made), 1)
            if tree:
                self.assertIs(judge_crowd_tree(made, tree[1:]), False)
                self.assertIs(judge_crowd_tree(made, tree + tree[:1]), False)

    def test_counts(self):
        # As many as there are trees with numbered nodes, as each two crowds have just the hub in common.
        for many, trees in [(3, 1), (4, 3), (5, 16), (6, 125), (7, 1296), (16, 15 ** 13)]:
            self.assert_same(count_crowd_trees(star(many, many // 2)), trees)
        self.assert_same(count_crowd_trees(band(16, 2, words(16))), 1)
        self.assert_same(count_crowd_trees(band(16, 16, words(16))), 1)
        # Two stars, joined or with tied hubs: in the second case the tie of the hubs is one more crowd of either.
        posts = words(10)
        left = [(posts[0], x) for x in posts[2:6]]
        right = [(posts[1], x) for x in posts[6:]]
        self.assert_same(count_crowd_trees(Map(posts, left + right)), 16 * 16)
        self.assert_same(count_crowd_trees(Map(posts, left + right + [(posts[0], posts[1])])), 125 * 125)

    def test_crowds_with_more_and_less_in_common(self):
        # Two books, one with the spine a b and one with the spine a c, share the post a alone.
        posts = ["a", "b", "c", "d", "e", "f", "g", "h"]
        ties = ["ab", "ac"] + [s + x for x in "def" for s in "ab"] + [s + x for x in "gh" for s in "ac"]
        made = Map(posts, [tuple(tie) for tie in ties])
        # 3 ** 1 ways within the first book, 1 within the second one, and 3 * 2 to pair the two.
        self.assert_same(count_crowd_trees(made), 3 * 6)

    def test_counts_of_maps_with_several_pieces_and_crowds_of_all_sizes(self):
        seen = []
        for seed in range(100):
            made = grown_map(9, 3, seed)
            rows = crowds_of(made)
            if 4 <= len(rows) <= 7 and len(pieces_of(made)) < 4:
                pairs = [(i, j) for i, j in itertools.combinations(range(len(rows)), 2) if set(rows[i]) & set(rows[j])]
                trees = [tree for tree in itertools.combinations(pairs, len(rows) - len(pieces_of(made)))
                         if plain.is_crowd_tree(made.posts(), rows, tree)]
                self.assert_same(count_crowd_trees(made), len(trees))
                seen.append(len(trees))
        self.assertGreater(len(set(seen)), 5)

    def test_pairs_that_close_a_ring(self):
        for many in [4, 5]:
            made = star(many + 1, 2)
            pairs = list(itertools.combinations(range(many), 2))
            for value in itertools.product(pairs, repeat=many - 1):
                wanted = len(set(value)) == many - 1 and plain.closes_no_ring(value)
                self.assertIs(judge_crowd_tree(made, value), wanted)

    def test_a_great_number(self):
        self.assert_same(count_crowd_trees(star(1500, 700)), 1499 ** 1497)
        posts = words(2000)
        self.assert_same(count_crowd_trees(Map(posts, list(zip(posts, posts[1:])))), 1)

    def test_several_pieces(self):
        made = joined_maps(star(4, 0), Map(["z", "y", "x"], [("y", "z"), ("y", "x")]))
        self.assert_same(crowds_of(made)[3:], [("z", "y"), ("y", "x")])
        self.assert_same(count_crowd_trees(made), 3)
        self.assertIs(judge_crowd_tree(made, [(3, 4), (0, 2), (1, 2)]), True)
        self.assertIs(judge_crowd_tree(made, [(3, 4), (0, 2), (1, 2), (0, 3)]), False)
        self.assertIs(judge_crowd_tree(made, [(3, 4), (0, 2), (1, 3)]), False)


class NotGoodTest(Case):
    def test_bad_maps(self):
        for made in BAD_MAPS:
            ring = long_ring_of(made)
            self.assert_raises(NotGood, {"ring": ring}, crowd_tree_of, made)
            self.assert_raises(NotGood, {"ring": ring}, count_crowd_trees, made)
            for value in no_posts():
                self.assertIs(judge_crowd_tree(made, value), False)

    def test_pairs_of_a_long_ring(self):
        pairs = [(0, 1), (0, 2), (1, 3), (2, 3)]
        for many in range(5):
            for value in itertools.combinations(pairs, many):
                self.assertIs(judge_crowd_tree(ring_of_posts(4), value), False)


class WrongValuesTest(Case):
    def test_what_is_no_crowd_tree(self):
        made = peeled_map()
        values = [
            [(0, 1), [1, 2]], [[0, 1], [1, 2]], ([0, 1], [1, 2]), [(1, 0), (1, 2)], [(0, 1), (2, 1)], [(0, 1), (1, 2, 0)],
            [(0, 1), (1,)], [(0, 1), ()], [(0, 1), (1, 3)], [(0, 1), (-2, -1)], [(0, 1), (-1, 2)], [(0, 1), (0, 1)],
            [(0, 1), (1, 2), (1, 2)], [(0, 1), (1, 2), (0, 0)], [(0, 1), (1, 1)], {(0, 1): (1, 2)}, [((0, 1), (1, 2))],
            "01", (0, 1), [0, 1, 1, 2], [("0", "1"), ("1", "2")], [(0, 1), (1, 10 ** 39)]]
        for value in no_posts() + values:
            self.assertIs(judge_crowd_tree(made, value), False)
        for value in no_posts():
            for pairs in [[value, (1, 2)], [(0, 1), value], [(0, 1), (1, value)], ((0, 1), (value, 2))]:
                # True is no number, although Python finds it equal to 1.
                wanted = list(pairs) == [(0, 1), (1, 2)] and value is not True
                self.assertIs(judge_crowd_tree(made, pairs), wanted)

    def test_true_and_false_are_no_numbers(self):
        made = Map(["a", "b", "c"], [("a", "b"), ("b", "c")])
        self.assertIs(judge_crowd_tree(made, [(0, 1)]), True)
        for pair in [(False, True), (0, True), (False, 1)]:
            self.assertIs(judge_crowd_tree(made, [pair]), False)
