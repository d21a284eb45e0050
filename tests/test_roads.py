"""Roads, their order and their numbers: S3.3, S3.4 and the interface, crossties/roads.py."""

import itertools

from crossties.errors import BadRoads, TooGreat, UnknownName
from crossties.maps import Map, joined_maps
from crossties.peelings import all_peelings
from crossties.roads import all_roads, count_roads, is_road, road_at, road_number, road_of

from tests import plain
from tests.samples import (
    BAD_MAPS, GOOD_MAPS, Case, all_maps, all_small_maps, band, layered_map, levels_map, no_posts, plain_map,
    ring_of_posts, some, words)


class ExampleTest(Case):
    def test_two_roads_from_b_to_d(self):
        made = levels_map()
        self.assert_same(all_roads(made, "b", "d"), [("b", "a", "d"), ("b", "c", "d")])
        self.assert_same(count_roads(made, "b", "d"), 2)
        self.assert_same(road_of(made, "b", "d"), ("b", "a", "d"))
        self.assert_same(road_at(made, "b", "d", 0), ("b", "a", "d"))
        self.assert_same(road_at(made, "b", "d", 1), ("b", "c", "d"))
        self.assert_raises(TooGreat, {}, road_at, made, "b", "d", 2)
        self.assert_same(road_number(made, ("b", "a", "d")), 0)
        self.assert_same(road_number(made, ("b", "c", "d")), 1)
        self.assert_same(road_number(made, ("d", "c", "b")), 1)

    def test_what_is_no_road_of_the_example(self):
        made = levels_map()
        for value in [("b", "a", "c"), ("b", "c", "a", "d"), ("b", "a", "b"), ("a", "b", "c", "d"), ("b", "d"), ("a", "e")]:
            self.assertIs(is_road(made, value), False)

    def test_different_pieces(self):
        made = levels_map()
        for x, y in [("a", "e"), ("e", "b")]:
            self.assertIs(road_of(made, x, y), None)
            self.assert_same(all_roads(made, x, y), [])
            self.assert_same(count_roads(made, x, y), 0)
            self.assert_raises(TooGreat, {}, road_at, made, x, y, 0)


class EmptyTest(Case):
    def test_no_posts(self):
        empty = Map([], [])
        for value in no_posts() + ["a"]:
            for call in [road_of, all_roads, count_roads]:
                self.assert_raises(UnknownName, {"name": value}, call, empty, value, "b")
            self.assert_raises(UnknownName, {"name": value}, road_at, empty, value, "b", 0)
            self.assertIs(is_road(empty, value), False)

    def test_a_post_and_itself(self):
        for made in [Map(["x"], []), plain_map(4), levels_map(), ring_of_posts(6), *GOOD_MAPS[:5]]:
            for x in made.posts():
                self.assert_same(all_roads(made, x, x), [(x,)])
                self.assert_same(road_of(made, x, x), (x,))
                self.assert_same(count_roads(made, x, x), 1)
                self.assert_same(road_at(made, x, x, 0), (x,))
                self.assert_raises(TooGreat, {}, road_at, made, x, x, 1)
                self.assert_same(road_number(made, (x,)), 0)
                self.assertIs(is_road(made, (x,)), True)
                self.assertIs(is_road(made, (x, x)), False)


class SmallMapsTest(Case):
    def test_every_two_posts_of_every_small_map(self):
        for posts, ties in itertools.chain(all_small_maps(4), some(all_maps("caebd"), 200, 3)):
            made = Map(posts, ties)
            for x, y in itertools.product(posts, repeat=2):
                self.agree(made, x, y, plain.roads(posts, ties, x, y))

    def agree(self, made, x, y, rows):
        self.assert_same(all_roads(made, x, y), rows)
        self.assert_same(count_roads(made, x, y), len(rows))
        self.assert_same(road_of(made, x, y), rows[0] if rows else None)
        for number, row in enumerate(rows):
            self.assert_same(road_at(made, x, y, number), row)
            self.assert_same(road_number(made, row), number)
            self.assertIs(is_road(made, row), True)
            self.assertIs(is_road(made, row[::-1]), True)
        for number in [len(rows), len(rows) + 1, 10 ** 39]:
            self.assert_raises(TooGreat, {}, road_at, made, x, y, number)

    def test_every_tuple_of_posts(self):
        for posts, ties in all_maps("cadb"):
            made = Map(posts, ties)
            rows = [row for x in posts for y in posts for row in plain.roads(posts, ties, x, y)]
            for many in range(5):
                for value in itertools.product(posts, repeat=many):
                    self.assert_same(is_road(made, value), value in rows)

    def test_posts_in_another_order(self):
        ties = [("a", "b"), ("a", "c"), ("a", "d"), ("b", "z"), ("c", "z"), ("d", "z")]
        for order in itertools.permutations("bcd"):
            made = Map(["z", *order, "a"], ties)
            self.assert_same(all_roads(made, "a", "z"), [("a", x, "z") for x in order])


class GreaterMapsTest(Case):
    def test_sixteen_posts(self):
        for made in GOOD_MAPS[::3] + BAD_MAPS[::2]:
            for x, y in itertools.product(made.posts()[::3], made.posts()[::4]):
                rows = plain.roads(made.posts(), made.ties(), x, y)
                self.assert_same(all_roads(made, x, y), rows)
                self.assert_same(count_roads(made, x, y), len(rows))
                self.assert_same(road_at(made, x, y, len(rows) - 1) if rows else None, rows[-1] if rows else None)

    def test_long_rings(self):
        for many in [4, 5, 6, 15, 16, 30]:
            made = ring_of_posts(many)
            p = made.posts()
            half = many // 2
            one_way = tuple(p[:half + 1])
            other_way = (p[0], *p[:half - 1:-1])
            self.assert_same(road_of(made, p[0], p[half]), one_way)
            self.assert_same(all_roads(made, p[0], p[half]), [one_way, other_way] if many % 2 == 0 else [one_way])
            self.assertIs(is_road(made, other_way), many % 2 == 0)
            self.assert_raises(BadRoads, {"path": ()}, road_number, made, tuple(p[:half + 2]))

    def test_very_many_roads(self):
        made, layers = layered_map([1, 7, 7, 7, 7, 1])
        many = 7 ** 4
        self.assert_same(count_roads(made, "a0", "f0"), many)
        self.assert_raises(TooGreat, {}, all_roads, made, "a0", "f0")
        for number in [0, 1, 6, 7, 48, 49, 1000, many - 1]:
            digits = [number // 7 ** k % 7 for k in range(3, -1, -1)]
            road = ("a0", *[layer[d] for layer, d in zip(layers[1:], digits)], "f0")
            self.assert_same(road_at(made, "a0", "f0", number), road)
            self.assert_same(road_number(made, road), number)
        self.assert_raises(TooGreat, {}, road_at, made, "a0", "f0", many)
        self.assert_same(road_of(made, "f0", "a0"), ("f0", "e0", "d0", "c0", "b0", "a0"))

    def test_more_than_can_be_gone_through(self):
        made, layers = layered_map([1] + [2] * 14 + [1])
        last = layers[-1][0]
        self.assert_same(count_roads(made, "a0", last), 2 ** 14)
        self.assert_same(road_number(made, ("a0", *[layer[1] for layer in layers[1:15]], last)), 2 ** 14 - 1)
        made, layers = layered_map([1] + [3] * 9 + [1, 1])
        last = layers[-1][0]
        for number in [0, 1, 3 ** 8, 3 ** 9 - 1, 12345]:
            self.assert_same(road_number(made, road_at(made, "a0", last, number)), number)
        self.assert_raises(TooGreat, {}, road_at, made, "a0", last, 3 ** 9)

    def test_two_thousand_roads_and_one_more(self):
        made, layers = layered_map([1, 2, 2, 2, 2, 5, 5, 5, 1])
        last = layers[-1][0]
        rows = all_roads(made, "a0", last)
        self.assertEqual(len(rows), 2000)
        self.assertEqual(rows, sorted(set(rows)))
        self.assertEqual(rows, [road_at(made, "a0", last, k) for k in range(2000)])
        extra = words(7, "z")
        chain = ["a0", *extra, last]
        more = Map(made.posts() + extra, made.ties() + list(zip(chain, chain[1:])))
        self.assert_same(count_roads(more, "a0", last), 2001)
        self.assert_raises(TooGreat, {}, all_roads, more, "a0", last)
        self.assert_same(road_at(more, "a0", last, 2000), tuple(chain))
        self.assert_same(road_number(more, tuple(chain)), 2000)
        longer = ["a0", *extra, "zz", last]
        more = Map(made.posts() + extra + ["zz"], made.ties() + list(zip(longer, longer[1:])))
        self.assert_same(all_roads(more, "a0", last), rows)

    def test_thirty_posts_in_a_row_and_all_tied(self):
        posts = words(30)
        row = band(30, 1, posts)
        self.assert_same(all_roads(row, posts[29], posts[0]), [tuple(posts[::-1])])
        tied = band(30, 30, posts)
        self.assert_same(all_roads(tied, posts[3], posts[29]), [(posts[3], posts[29])])
        self.assertIs(is_road(tied, tuple(posts[:3])), False)

    def test_a_great_map_that_the_package_returned(self):
        posts = words(3000)
        row = band(3000, 1, posts)
        self.assert_same(road_of(row, posts[0], posts[2999]), tuple(posts))
        self.assert_same(road_at(row, posts[2999], posts[0], 0), tuple(posts[::-1]))
        self.assert_same(road_number(row, tuple(posts)), 0)
        self.assert_same(count_roads(row, posts[7], posts[2999]), 1)

    def test_roads_by_a_peeling(self):
        """S3.4: no post of a road but its ends comes earlier in a peeling than both posts next to it."""
        for posts, ties in some(all_maps("caebd"), 200, 5):
            made = Map(posts, ties)
            for row in all_peelings(made)[:10]:
                for x, y in itertools.combinations(posts, 2):
                    for road in all_roads(made, x, y):
                        ranks = [row.index(post) for post in road]
                        for k in range(1, len(ranks) - 1):
                            self.assertGreater(ranks[k], min(ranks[k - 1], ranks[k + 1]))
                        self.assertIn(min(ranks), (ranks[0], ranks[-1]))


class WrongValuesTest(Case):
    def test_unknown_posts(self):
        made = levels_map()
        calls = [road_of, all_roads, count_roads, lambda *arguments: road_at(*arguments, 0),
                 lambda *arguments: road_at(*arguments, 10 ** 39)]
        for call in calls:
            for value in no_posts():
                self.assert_raises(UnknownName, {"name": value}, call, made, value, "a")
                self.assert_raises(UnknownName, {"name": value}, call, made, "a", value)
                self.assert_raises(UnknownName, {"name": value}, call, made, value, "f")
                self.assert_raises(UnknownName, {"name": "f"}, call, made, "f", value)

    def test_what_is_no_tuple(self):
        for value in no_posts() + ["a", ["a"], ["b", "a", "d"], "abc"]:
            self.assertIs(is_road(levels_map(), value), value == ("a",) or value == ("a", "b"))
            if not isinstance(value, tuple) or value == ():
                self.assert_raises(BadRoads, {"path": ()}, road_number, levels_map(), value)

    def test_members_that_are_no_posts(self):
        road = ("b", "c", "d")
        for k, value in itertools.product(range(3), no_posts() + ["e"]):
            changed = road[:k] + (value,) + road[k + 1:]
            self.assertIs(is_road(levels_map(), changed), False)
            # A post of the map is right as the first member; then the next one is wrong, if it is not tied to it.
            place = 1 if (k, value) == (0, "e") else k
            self.assert_raises(BadRoads, {"path": (place,)}, road_number, levels_map(), changed)

    def test_the_first_wrong_member(self):
        made = levels_map()
        for value, path in [
                (("a", "a"), (1,)), (("a", "e"), (1,)), (("e", "a"), (1,)), (("a", "b", "d"), (2,)),
                (("a", "b", "d", "zz"), (2,)), (("a", "zz", "e", []), (1,)), ((["a"], "a"), (0,)), (((), "a"), (0,)),
                (("a", "b", "a"), ()), (("a", "b", "c"), ()), (("a", "c", "d", "a"), ()), (("a", "b", "b"), (2,)),
                (("b", "c", "d", "a", "e"), (4,)), (("b", "c", "d", "a"), ()), ((("a", "b"),), (0,))]:
            self.assert_raises(BadRoads, {"path": path}, road_number, made, value)
            self.assertIs(is_road(made, value), False)

    def test_roads_of_two_pieces(self):
        made = joined_maps(levels_map(), ring_of_posts(5))
        self.assert_raises(BadRoads, {"path": (1,)}, road_number, made, ("a", "p0"))
        self.assert_raises(BadRoads, {"path": (2,)}, road_number, made, ("p0", "p1", "a"))
        self.assert_same(road_number(made, ("p0", "p4", "p3")), 0)
