"""Lists of posts, open or not: S3.5, S3.6 and the interface, crossties/lists.py."""

import itertools

from crossties.distances import levels
from crossties.errors import BadLists, UnknownName
from crossties.lists import (
    Lists, are_open, distance_within, is_open_list, judge_not_open, not_open_paper, road_within)
from crossties.maps import Map, part_map

from tests import plain
from tests.samples import (
    BAD_MAPS, GOOD_MAPS, POSTS, Case, all_maps, all_small_maps, band, layered_map, levels_map, no_lists, no_posts,
    ring_of_posts, some, words)

EXAMPLE = [("a", "c"), ("d", "b")]
PAPER = (1, "b", "d", (1, 0, 1, 2, None), (0, None))


class ExampleTest(Case):
    def test_open_and_not(self):
        made = levels_map()
        self.assertIs(is_open_list(made, ["b", "d"]), False)
        for posts in [["b", "c", "d"], ["a", "c", "e"], ["b"], ["e"], ["a", "b", "c"], POSTS, ["a", "e"], ("d", "a", "b")]:
            self.assertIs(is_open_list(made, posts), True)

    def test_the_paper(self):
        lists = Lists(levels_map(), EXAMPLE)
        self.assertIs(are_open(lists), False)
        self.assert_same(not_open_paper(lists), PAPER)
        self.assertIs(judge_not_open(lists, PAPER), True)
        self.assertIs(judge_not_open(lists, (1, "d", "b", (1, 2, 1, 0, None), (None, 0))), True)

    def test_what_is_told(self):
        made = levels_map()
        lists = Lists(made, EXAMPLE)
        self.assertIs(lists.map(), made)
        self.assert_same(lists.lists(), [("a", "c"), ("b", "d")])
        self.assert_same(lists.posts_of(0), ("a", "c"))
        self.assert_same(lists.posts_of(1), ("b", "d"))
        self.assert_same(distance_within(lists, 0, "a", "c"), 1)
        self.assert_same(distance_within(lists, 1, "b", "d"), None)
        self.assert_same(distance_within(lists, 1, "d", "d"), 0)
        self.assert_same(road_within(lists, 1, "d", "d"), ("d",))
        self.assert_same(road_within(lists, 1, "d", "b"), None)
        self.assert_same(road_within(Lists(made, [["d", "b", "c"]]), 0, "d", "b"), ("d", "c", "b"))

    def test_a_longer_way_within_a_list(self):
        made = ring_of_posts(6)
        p = made.posts()
        lists = Lists(made, [p[:5]])
        self.assert_same(distance_within(lists, 0, p[0], p[4]), 4)
        self.assert_same(road_within(lists, 0, p[0], p[4]), None)
        self.assert_same(distance_within(lists, 0, p[0], p[3]), 3)
        self.assert_same(road_within(lists, 0, p[3], p[0]), (p[3], p[2], p[1], p[0]))
        self.assert_same(not_open_paper(lists), (0, p[0], p[4], (0, 1, 2, 3, 2, 1), (0, 1, 2, 3, 4)))


class EmptyTest(Case):
    def test_no_lists(self):
        for made in [Map([], []), levels_map()]:
            for lists in [Lists(made, []), Lists(made, ())]:
                self.assert_same(lists.lists(), [])
                self.assertIs(are_open(lists), True)
                self.assertIs(not_open_paper(lists), None)
                for value in no_posts() + [PAPER]:
                    self.assertIs(judge_not_open(lists, value), False)
                    self.assert_raises(UnknownName, {"name": value}, lists.posts_of, value)
                    self.assert_raises(UnknownName, {"name": value}, distance_within, lists, value, "a", "a")

    def test_no_list_on_a_map_without_posts(self):
        self.assert_raises(BadLists, {"path": (0,)}, Lists, Map([], []), [[]])
        self.assert_raises(BadLists, {"path": (0, 0)}, Lists, Map([], []), [["a"]])


class OrderTest(Case):
    def test_posts_come_in_the_order_of_the_map(self):
        made = Map(["d", "b", "a", "c"], [])
        lists = Lists(made, (["a", "b"], ("c", "d", "b", "a"), ["c"]))
        self.assert_same(lists.lists(), [("b", "a"), ("d", "b", "a", "c"), ("c",)])
        self.assert_same(lists.posts_of(1), ("d", "b", "a", "c"))
        ten = words(12)
        self.assert_same(Lists(Map(ten, []), [["p10", "p9", "p2"]]).lists(), [("p2", "p9", "p10")])


class EqualTest(Case):
    def test_equal_and_not(self):
        lists = Lists(levels_map(), EXAMPLE)
        self.assertIs(lists == Lists(levels_map(), [["c", "a"], ("b", "d")]), True)
        self.assertIs(lists != Lists(levels_map(), [["c", "a"], ("b", "d")]), False)
        others = [
            Lists(levels_map(), EXAMPLE[::-1]), Lists(levels_map(), EXAMPLE[:1]), Lists(levels_map(), EXAMPLE + EXAMPLE),
            Lists(levels_map(), []), Lists(levels_map(), [("a", "c"), ("d", "b", "c")]), Lists(Map(POSTS, []), EXAMPLE),
            Lists(Map(POSTS[::-1], levels_map().ties()), EXAMPLE)]
        for other in others + no_posts() + [EXAMPLE, [("a", "c"), ("b", "d")], levels_map()]:
            self.assertIs(lists == other, False)
            self.assertIs(other == lists, False)
            self.assertIs(lists != other, True)

    def test_lists_without_a_list(self):
        self.assertIs(Lists(levels_map(), []) == Lists(levels_map(), ()), True)
        self.assertIs(Lists(levels_map(), []) == Lists(Map([], []), ()), False)


class SmallMapsTest(Case):
    def test_every_list_of_every_map_of_at_most_four_posts(self):
        for posts, ties in all_small_maps(4):
            self.agree(posts, ties, plain.choices(posts))

    def test_some_maps_of_five_posts(self):
        for posts, ties in some(all_maps("caebd"), 40, 7):
            self.agree(posts, ties, plain.choices(posts))

    def agree(self, posts, ties, rows):
        made = Map(posts, ties)
        found = plain.distances(posts, ties)
        opens = [plain.is_open(posts, ties, row) for row in rows]
        for row, wanted in zip(rows, opens):
            self.assert_same(is_open_list(made, list(row[::-1])), wanted)
            lists = Lists(made, [row])
            self.assert_same(are_open(lists), wanted)
            inner = plain.distances(row, plain.ties_within(ties, row))
            wrong = [(x, y) for x in row for y in row if inner.get((x, y)) != found.get((x, y))]
            self.assertEqual(wanted, wrong == [])
            self.assert_same(not_open_paper(lists), self.paper(made, row, wrong))
            for x, y in itertools.product(row, repeat=2):
                self.assert_same(distance_within(lists, 0, x, y), inner.get((x, y)))
                roads = [road for road in plain.roads(posts, ties, x, y) if set(road) <= set(row)]
                self.assert_same(road_within(lists, 0, x, y), roads[0] if roads else None)
        self.assert_same(are_open(Lists(made, rows)), all(opens))
        self.assert_same(are_open(Lists(made, [row for row, wanted in zip(rows, opens) if wanted])), True)

    def paper(self, made, row, wrong):
        if not wrong:
            return None
        x, y = wrong[0]
        return (0, x, y, levels(made, x), levels(part_map(made, row), x))

    def test_every_paper_of_two_posts(self):
        for posts, ties in all_maps("cadb"):
            made = Map(posts, ties)
            rows = some([row for row in plain.choices(posts) if len(row) > 1], 5, len(ties))
            lists = Lists(made, rows)
            for k, row in enumerate(rows):
                for x, y in itertools.product(posts, repeat=2):
                    part = part_map(made, row)
                    if x in row and y in row:
                        paper = (k, x, y, levels(made, x), levels(part, x))
                        outer = levels(made, x)[made.number(y)]
                        inner = levels(part, x)[part.number(y)]
                        wanted = outer is not None and (inner is None or inner > outer)
                        self.assert_same(judge_not_open(lists, paper), wanted)
                    else:
                        paper = (k, x, y, levels(made, x), levels(part_map(made, set(row) | {x}), x))
                        self.assertIs(judge_not_open(lists, paper), False)


class FirstPaperTest(Case):
    def test_the_first_list_and_the_first_posts(self):
        made = ring_of_posts(8)
        p = made.posts()
        lists = Lists(made, [p[:4], p[2:4], p[::-1], p[1:7], [p[0], p[2]]])
        self.assert_same(not_open_paper(lists), (
            3, p[1], p[6], (1, 0, 1, 2, 3, 4, 3, 2), (0, 1, 2, 3, 4, 5)))
        lists = Lists(made, [p, [p[6], p[4], p[2], p[3]], p[1:7]])
        self.assert_same(not_open_paper(lists), (1, p[2], p[6], (2, 1, 0, 1, 2, 3, 4, 3), (0, 1, 2, None)))


class GreaterMapsTest(Case):
    def test_all_posts_single_posts_and_crowds(self):
        for made in GOOD_MAPS[::4] + BAD_MAPS[::3]:
            posts = made.posts()
            self.assertIs(are_open(Lists(made, [posts[k:] + posts[:k] for k in range(16)])), True)
            self.assertIs(are_open(Lists(made, [[post] for post in posts])), True)
            self.assertIs(are_open(Lists(made, [[x, y] for x, y in made.ties()[:16]])), True)

    def test_thirty_posts(self):
        posts = words(30)
        row = band(30, 2, posts)
        self.assertIs(are_open(Lists(row, [posts[k:k + 15] for k in range(16)])), True)
        lists = Lists(row, [posts] * 15 + [posts[:10] + posts[11:]])
        self.assertIs(are_open(lists), False)
        paper = not_open_paper(lists)
        self.assertEqual(paper[:3], (15, posts[0], posts[12]))
        self.assertIs(judge_not_open(lists, paper), True)

    def test_very_many_roads(self):
        made, layers = layered_map([1, 7, 7, 7, 7, 1])
        chosen = ["a0", "b6", "c5", "d4", "e3", "f0"]
        lists = Lists(made, [chosen, made.posts(), chosen + ["e1", "b2"], chosen[:3] + chosen[4:]])
        self.assertIs(is_open_list(made, chosen), True)
        self.assertIs(is_open_list(made, made.posts()), True)
        self.assertIs(is_open_list(made, chosen + ["c6"]), True)
        self.assertIs(is_open_list(made, chosen[:3] + chosen[4:]), False)
        self.assert_same(road_within(lists, 0, "a0", "f0"), tuple(chosen))
        self.assert_same(road_within(lists, 1, "f0", "a0"), ("f0", "e0", "d0", "c0", "b0", "a0"))
        self.assert_same(road_within(lists, 2, "a0", "f0"), ("a0", "b2", "c5", "d4", "e1", "f0"))
        self.assert_same(distance_within(lists, 3, "a0", "f0"), None)
        self.assertEqual(not_open_paper(lists)[:3], (3, "a0", "e3"))


class WrongListsTest(Case):
    def test_what_is_no_list(self):
        for value in no_lists() + ["abc", "a"]:
            self.assert_raises(BadLists, {"path": ()}, Lists, levels_map(), value)
            self.assert_raises(BadLists, {"path": (0,)}, Lists, levels_map(), [value])
            self.assert_raises(BadLists, {"path": (2,)}, Lists, levels_map(), (["a"], ("b", "a"), value, ["zz"]))

    def test_empty_lists(self):
        for value in [[], ()]:
            self.assert_raises(BadLists, {"path": (0,)}, Lists, levels_map(), [value])
            self.assert_raises(BadLists, {"path": (1,)}, Lists, levels_map(), [["a"], value, ["zz"]])

    def test_members_that_are_no_posts_or_stand_earlier(self):
        for value in no_posts() + ["f"]:
            self.assert_raises(BadLists, {"path": (0, 0)}, Lists, levels_map(), [[value]])
            self.assert_raises(BadLists, {"path": (1, 2)}, Lists, levels_map(), [["a"], ("a", "b", value, "zz"), []])
        self.assert_raises(BadLists, {"path": (0, 1)}, Lists, levels_map(), [["a", "a"]])
        self.assert_raises(BadLists, {"path": (1, 3)}, Lists, levels_map(), [["a", "b"], ["a", "b", "c", "a", "b"]])

    def test_all_of_a_list_is_asked_before_the_next_one(self):
        faults = [([], (0,)), (["a", 3], (0, 1)), (["b", "c", "b"], (0, 2)), (None, (0,)), (["zz", []], (0, 0))]
        for (one, path), (other, _) in itertools.product(faults, repeat=2):
            self.assert_raises(BadLists, {"path": path}, Lists, levels_map(), [one, other])
            self.assert_raises(BadLists, {"path": path}, Lists, levels_map(), (one, ["a"], other))


class WrongMembersTest(Case):
    def test_numbers_of_lists(self):
        lists = Lists(levels_map(), EXAMPLE)
        for value in no_posts() + ["a", 2, -1, True, False, (0,)]:
            # To Python True is equal to 1, so the very kind of value is asked.
            if type(value) is int and value in (0, 1):
                continue
            self.assert_raises(UnknownName, {"name": value}, lists.posts_of, value)
            for function in [distance_within, road_within]:
                self.assert_raises(UnknownName, {"name": value}, function, lists, value, "a", "c")
                self.assert_raises(UnknownName, {"name": value}, function, lists, value, [], {})

    def test_posts_of_lists(self):
        lists = Lists(levels_map(), EXAMPLE)
        for function in [distance_within, road_within]:
            for value in no_posts() + ["b", "d", "e"]:
                self.assert_raises(UnknownName, {"name": value}, function, lists, 0, value, "a")
                self.assert_raises(UnknownName, {"name": value}, function, lists, 0, "a", value)
                self.assert_raises(UnknownName, {"name": value}, function, lists, 0, value, "zz")
                self.assert_raises(UnknownName, {"name": "d"}, function, lists, 0, "d", value)


class JudgeTest(Case):
    def test_values_of_all_kinds(self):
        lists = Lists(levels_map(), EXAMPLE)
        for value in no_posts() + ["a", list(PAPER), PAPER[:4], PAPER + (None,), (PAPER,), [PAPER], ()]:
            self.assertIs(judge_not_open(lists, value), False)
        for k, value in itertools.product(range(5), no_posts() + ["a", "b", "c", 1]):
            changed = PAPER[:k] + (value,) + PAPER[k + 1:]
            wanted = value == PAPER[k] and not isinstance(value, bool)
            self.assertIs(judge_not_open(lists, changed), wanted)

    def test_levels_of_all_kinds(self):
        lists = Lists(levels_map(), EXAMPLE)
        for place in [3, 4]:
            right = PAPER[place]
            wrong = [list(right), right[:-1], right + (None,), right[::-1], (right,), ()]
            for k, value in itertools.product(range(len(right)), no_posts() + [0, 1, 2, 3]):
                if value != right[k] or isinstance(value, bool):
                    wrong.append(right[:k] + (value,) + right[k + 1:])
            for value in wrong:
                self.assertIs(judge_not_open(lists, PAPER[:place] + (value,) + PAPER[place + 1:]), False)

    def test_true_is_no_number_of_a_list(self):
        lists = Lists(levels_map(), EXAMPLE[::-1] + EXAMPLE)
        paper = (0,) + PAPER[1:]
        self.assertIs(judge_not_open(lists, paper), True)
        self.assertIs(judge_not_open(lists, (3,) + PAPER[1:]), True)
        for k in [False, True, 1, 2, 4, -1, -4, None]:
            self.assertIs(judge_not_open(lists, (k,) + PAPER[1:]), False)

    def test_posts_that_are_open_or_in_two_pieces(self):
        lists = Lists(levels_map(), [("b", "d", "e"), ("a", "b", "d")])
        for x, y, wanted in [("b", "d", True), ("b", "b", False), ("b", "e", False), ("e", "d", False)]:
            part = part_map(levels_map(), ["b", "d", "e"])
            paper = (0, x, y, levels(levels_map(), x), levels(part, x))
            self.assertIs(judge_not_open(lists, paper), wanted)
        part = part_map(levels_map(), ["a", "b", "d"])
        self.assertIs(judge_not_open(lists, (1, "b", "d", levels(levels_map(), "b"), levels(part, "b"))), False)
