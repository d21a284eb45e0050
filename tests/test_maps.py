"""Maps, pieces, parts and joined maps: S1.1, S1.2, S1.3 and the interface, crossties/maps.py."""

import itertools

from crossties.errors import BadMap, UnknownName
from crossties.maps import (
    Map, both_near, joined_maps, map_without, part_map, pieces_of, with_tie, without_tie)

from tests.samples import POSTS, TIES, Case, all_maps, example, no_posts, ties_of


def nears(posts, ties):
    """The pairs of near posts, by the words of S1.1."""
    return {(x, x) for x in posts} | set(ties) | {(y, x) for x, y in ties}


def hangs(posts, ties):
    """The pairs of posts that hang together, as what no step adds to any more."""
    found = nears(posts, ties)
    while True:
        more = found | {(x, z) for x, y in found for w, z in found if y == w}
        if more == found:
            return found
        found = more


class ExampleTest(Case):
    def test_posts_and_ties(self):
        self.assert_same(example().posts(), POSTS)
        self.assert_same(example().ties(), [("a", "b"), ("b", "c"), ("b", "d"), ("c", "d")])

    def test_near(self):
        self.assert_same(example().near("b"), ["a", "b", "c", "d"])
        self.assert_same(example().tied("b"), ["a", "c", "d"])
        self.assert_same(example().near("e"), ["e"])
        self.assert_same(example().tied("e"), [])
        self.assert_same(both_near(example(), "c", "d"), ["b", "c", "d"])
        self.assert_same(both_near(example(), "a", "c"), ["b"])
        self.assert_same(both_near(example(), "a", "e"), [])

    def test_pieces(self):
        self.assert_same(pieces_of(example()), [("a", "b", "c", "d"), ("e",)])

    def test_without(self):
        rest = map_without(example(), ["b"])
        self.assert_same(rest.posts(), ["a", "c", "d", "e"])
        self.assert_same(rest.ties(), [("c", "d")])


class EmptyTest(Case):
    def test_no_posts(self):
        for empty in [Map([], []), Map((), ()), part_map(example(), []), map_without(example(), POSTS)]:
            self.assert_same(empty.posts(), [])
            self.assert_same(empty.ties(), [])
            self.assert_same(pieces_of(empty), [])
            self.assertIs(empty == Map([], ()), True)
            self.assertIs(joined_maps(empty, empty) == empty, True)
            self.assertIs(joined_maps(empty, example()) == example(), True)
            self.assertIs(joined_maps(example(), empty) == example(), True)
            self.assertIs(part_map(empty, []) == empty, True)
            self.assertIs(map_without(empty, ()) == empty, True)
            for value in no_posts() + ["a"]:
                self.assert_raises(UnknownName, {"name": value}, empty.number, value)

    def test_no_ties(self):
        plain = Map(["x", "map", "a1"], [])
        self.assert_same(plain.ties(), [])
        self.assert_same(pieces_of(plain), [("x",), ("map",), ("a1",)])
        self.assert_same(plain.near("map"), ["map"])
        self.assertIs(plain.is_near("map", "map"), True)
        self.assertIs(plain.is_near("map", "x"), False)


class OrderTest(Case):
    def test_ties_from_the_other_end_and_in_any_order(self):
        for ties in itertools.permutations(TIES):
            for turned in itertools.product([False, True], repeat=len(ties)):
                passed = [(y, x) if turn else (x, y) for turn, (x, y) in zip(turned, ties)]
                self.assert_same(Map(POSTS, passed).ties(), example().ties())
                self.assertIs(Map(tuple(POSTS), tuple(passed)) == example(), True)

    def test_the_order_is_that_of_the_posts_not_of_the_letters(self):
        made = Map(["d", "b", "a", "c"], [("a", "b"), ("a", "c"), ("b", "c"), ("a", "d")])
        self.assert_same(made.ties(), [("d", "a"), ("b", "a"), ("b", "c"), ("a", "c")])
        self.assert_same(made.near("a"), ["d", "b", "a", "c"])
        self.assert_same(made.tied("c"), ["b", "a"])
        self.assert_same(pieces_of(made), [("d", "b", "a", "c")])

    def test_ten_posts_and_more_are_ordered_by_number(self):
        posts = [f"p{k}" for k in range(30)]
        made = Map(posts, [("p10", "p2"), ("p9", "p10"), ("p2", "p1"), ("p29", "p2")])
        self.assert_same(made.ties(), [("p1", "p2"), ("p2", "p10"), ("p2", "p29"), ("p9", "p10")])
        self.assert_same(made.near("p2"), ["p1", "p2", "p10", "p29"])


class AllSmallMapsTest(Case):
    def test_every_question_on_every_map_of_four_posts(self):
        for posts, ties in all_maps(["c", "a", "d", "b"]):
            made = Map(posts, [(y, x) for x, y in ties[::-1]])
            near = nears(posts, ties)
            self.assert_same(made.posts(), posts)
            self.assert_same(made.ties(), ties)
            for k, x in enumerate(posts):
                self.assert_same(made.number(x), k)
                self.assert_same(made.near(x), [y for y in posts if (x, y) in near])
                self.assert_same(made.tied(x), [y for y in posts if (x, y) in near and x != y])
                for y in posts:
                    self.assert_same(made.is_near(x, y), (x, y) in near)
                    both = [z for z in posts if (x, z) in near and (y, z) in near]
                    self.assert_same(both_near(made, x, y), both)

    def test_pieces(self):
        for many in range(5):
            for posts, ties in all_maps(["c", "a", "d", "b"][:many]):
                together = hangs(posts, ties)
                wanted = []
                for x in posts:
                    piece = tuple(y for y in posts if (x, y) in together)
                    if piece not in wanted:
                        wanted.append(piece)
                self.assert_same(pieces_of(Map(posts, ties)), wanted)

    def test_parts(self):
        for posts, ties in all_maps(["c", "a", "d", "b"]):
            made = Map(posts, ties)
            for many in range(5):
                for chosen in itertools.combinations(posts, many):
                    rest = [x for x in posts if x not in chosen]
                    part = part_map(made, list(chosen[::-1]))
                    self.assert_same(part.posts(), list(chosen))
                    self.assert_same(part.ties(), [(x, y) for x, y in ties if x in chosen and y in chosen])
                    self.assertIs(part_map(made, chosen) == part, True)
                    self.assertIs(map_without(made, rest[::-1]) == part, True)
                    self.assertIs(map_without(made, tuple(rest)) == part, True)

    def test_ties_put_in_and_taken_off(self):
        for posts, ties in all_maps(["c", "a", "d", "b"]):
            made = Map(posts, ties)
            for x, y in ties_of(posts):
                more = [tie for tie in ties_of(posts) if tie in ties or tie == (x, y)]
                less = [tie for tie in ties if tie != (x, y)]
                self.assert_same(with_tie(made, x, y).ties(), more)
                self.assert_same(with_tie(made, y, x).ties(), more)
                self.assert_same(without_tie(made, x, y).ties(), less)
                self.assert_same(without_tie(made, y, x).ties(), less)
                self.assert_same(with_tie(made, y, x).posts(), posts)
                self.assert_same(without_tie(made, y, x).posts(), posts)
            for x in posts:
                self.assertIs(with_tie(made, x, x) == made, True)
                self.assertIs(without_tie(made, x, x) == made, True)

    def test_joined(self):
        for one_posts, one_ties in all_maps(["y", "x"]):
            for other_posts, other_ties in all_maps(["c", "a", "b"]):
                one = Map(one_posts, one_ties)
                other = Map(other_posts, other_ties)
                joined = joined_maps(one, other)
                self.assert_same(joined.posts(), one_posts + other_posts)
                self.assert_same(joined.ties(), one_ties + other_ties)
                self.assert_same(pieces_of(joined), pieces_of(one) + pieces_of(other))
                turned = joined_maps(other, one)
                self.assert_same(turned.posts(), other_posts + one_posts)
                self.assert_same(turned.ties(), other_ties + one_ties)


class JoinedErrorsTest(Case):
    def test_the_first_common_post(self):
        one = Map(["a", "b", "c"], [("a", "b")])
        for posts, k in [(["a"], 3), (["x", "c", "a"], 4), (["x", "y", "b"], 5), (["c", "b", "a"], 3)]:
            self.assert_raises(BadMap, {"path": (0, k)}, joined_maps, one, Map(posts, []))
        self.assert_raises(BadMap, {"path": (0, 3)}, joined_maps, one, one)


class EqualTest(Case):
    def test_equal_and_not(self):
        self.assertIs(example() == example(), True)
        self.assertIs(example() != example(), False)
        others = [
            Map(["b", "a", "c", "d", "e"], TIES), Map(POSTS, TIES[1:]), Map(POSTS, TIES + [("a", "e")]),
            Map(POSTS + ["f"], TIES), Map(["a", "b", "c", "d", "f"], TIES), Map(POSTS, []), Map([], [])]
        for other in others:
            self.assertIs(example() == other, False)
            self.assertIs(other == example(), False)
            self.assertIs(example() != other, True)

    def test_each_two_small_maps(self):
        rows = [(posts, ties) for order in itertools.permutations("abc") for posts, ties in all_maps(order)]
        for one in rows:
            for other in rows:
                self.assertIs(Map(*one) == Map(*other), one == other)

    def test_what_is_no_map(self):
        for value in no_posts() + [(POSTS, TIES), [POSTS, TIES]]:
            if not isinstance(value, Map):
                self.assertIs(example() == value, False)
                self.assertIs(value == example(), False)


class UnknownNameTest(Case):
    def test_methods(self):
        made = example()
        for value in no_posts():
            for call in [made.number, made.near, made.tied]:
                self.assert_raises(UnknownName, {"name": value}, call, value)

    def test_two_posts(self):
        made = example()
        calls = [made.is_near]
        for function in [both_near, with_tie, without_tie]:
            calls.append(lambda x, y, function=function: function(made, x, y))
        for call in calls:
            for value in no_posts():
                self.assert_raises(UnknownName, {"name": value}, call, value, "a")
                self.assert_raises(UnknownName, {"name": value}, call, "a", value)
                self.assert_raises(UnknownName, {"name": value}, call, value, value)
                self.assert_raises(UnknownName, {"name": value}, call, value, "f")
                self.assert_raises(UnknownName, {"name": "f"}, call, "f", value)

    def test_lists_of_posts(self):
        made = example()
        for function in [part_map, map_without]:
            for value in no_posts():
                for posts in [[value], ["a", value], ("e", "a", value, "f"), [value, []]]:
                    self.assert_raises(UnknownName, {"name": value}, function, made, posts)

    def test_the_name_is_the_very_value(self):
        value = ["a"]
        try:
            example().number(value)
        except UnknownName as error:
            self.assertIs(error.name, value)


class GreatMapTest(Case):
    def test_some_thousand_posts(self):
        posts = [f"p{k}" for k in range(5000)]
        row = Map(posts, list(zip(posts[1:], posts)))
        self.assert_same(pieces_of(row), [tuple(posts)])
        self.assert_same(row.near("p4999"), ["p4998", "p4999"])
        self.assert_same(pieces_of(Map(posts, [])), [(post,) for post in posts])
        halves = map_without(row, ["p2500"])
        self.assert_same(pieces_of(halves), [tuple(posts[:2500]), tuple(posts[2501:])])

    def test_all_ties_of_sixty_posts(self):
        posts = [f"p{k}" for k in range(60)]
        full = Map(posts, [(y, x) for x, y in ties_of(posts)])
        self.assert_same(full.ties(), ties_of(posts))
        self.assert_same(both_near(full, "p7", "p3"), posts)
