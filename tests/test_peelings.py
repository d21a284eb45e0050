"""Peelings and good maps: S2.2, S2.3 and the interface, crossties/peelings.py."""

import itertools

from crossties.errors import TooGreat, UnknownName
from crossties.maps import Map, joined_maps, part_map
from crossties.maptexts import read_map
from crossties.peelings import (
    all_peelings, can_peel, first_posts, good, judge_peeling, later_near, peeling_of)

from tests import plain
from tests.samples import (
    BAD_MAPS, GOOD_MAPS, Case, all_maps, all_small_maps, band, no_posts, peeled_map, plain_map, ring_of_posts, words)


class ExampleTest(Case):
    def test_which_can_be_peeled_off(self):
        self.assert_same([can_peel(peeled_map(), x) for x in "abcde"], [True, False, False, False, True])
        self.assert_same(first_posts(peeled_map()), ["a", "e"])

    def test_its_peelings(self):
        self.assertIs(judge_peeling(peeled_map(), ("e", "a", "d", "c", "b")), True)
        self.assertIs(judge_peeling(peeled_map(), ("a", "b", "c", "d", "e")), True)
        self.assertIs(judge_peeling(peeled_map(), ("a", "d", "b", "c", "e")), False)
        self.assertIs(good(peeled_map()), True)

    def test_later_near(self):
        self.assert_same(later_near(peeled_map(), ("e", "a", "d", "c", "b")), [
            ("e", ("d",)), ("a", ("b", "c")), ("d", ("b", "c")), ("c", ("b",)), ("b", ())])


class EmptyTest(Case):
    def test_no_posts(self):
        empty = Map([], [])
        self.assertIs(good(empty), True)
        self.assert_same(peeling_of(empty), ())
        self.assert_same(all_peelings(empty), [()])
        self.assert_same(first_posts(empty), [])
        self.assert_same(later_near(empty, ()), [])
        self.assertIs(judge_peeling(empty, ()), True)
        for value in no_posts() + ["a"]:
            self.assertIs(judge_peeling(empty, value), value == ())
            self.assert_raises(UnknownName, {"name": value}, can_peel, empty, value)

    def test_one_post(self):
        one = Map(["b"], [])
        self.assertIs(can_peel(one, "b"), True)
        self.assert_same(peeling_of(one), ("b",))
        self.assert_same(all_peelings(one), [("b",)])
        self.assert_same(later_near(one, ("b",)), [("b", ())])


class SmallMapsTest(Case):
    def test_every_question_on_every_map_of_at_most_four_posts(self):
        for posts, ties in all_small_maps(4):
            made = Map(posts, ties)
            rows = plain.peelings(posts, ties)
            self.assert_same(all_peelings(made), rows)
            self.assert_same(first_posts(made), [x for x in posts if plain.can_be_peeled(posts, ties, x)])
            for x in posts:
                self.assert_same(can_peel(made, x), plain.can_be_peeled(posts, ties, x))
            for row in itertools.permutations(posts):
                self.assert_same(judge_peeling(made, row), row in rows)
                near = plain.near_pairs(posts, ties)
                self.assert_same(later_near(made, row), [
                    (x, tuple(y for y in posts if (x, y) in near and row.index(y) > row.index(x))) for x in row])

    def test_all_peelings_of_five_posts(self):
        for posts, ties in all_maps("caebd"):
            made = Map(posts, ties)
            rows = plain.peelings(posts, ties)
            self.assert_same(all_peelings(made), rows)
            self.assert_same(good(made), rows != [])
            if rows:
                self.assertIn(peeling_of(made), rows)
            else:
                self.assertIs(peeling_of(made), None)


class GoodTest(Case):
    def test_greater_maps(self):
        for made in GOOD_MAPS:
            self.assertIs(good(made), True)
            row = peeling_of(made)
            self.assertTrue(plain.is_peeling(made.posts(), made.ties(), row))
            self.assertEqual(sorted(row), sorted(made.posts()))
            self.assertIs(judge_peeling(made, row), True)
            self.assertNotEqual(first_posts(made), [])
        for made in BAD_MAPS:
            self.assertIs(good(made), False)
            self.assertIs(peeling_of(made), None)
            self.assert_same(all_peelings(made), [])
            self.assertIs(judge_peeling(made, tuple(made.posts())), False)

    def test_a_long_ring_behind_posts_that_can_be_peeled_off(self):
        for many in [4, 5, 6]:
            ring = ring_of_posts(many)
            last = ring.posts()[-1]
            made = Map(ring.posts() + ["x", "y"], ring.ties() + [(last, "x"), ("x", "y")])
            self.assert_same(first_posts(made), ["y"])
            self.assertIs(good(made), False)
            self.assertIs(good(part_map(made, ring.posts()[1:] + ["x", "y"])), True)

    def test_one_bad_piece_of_several(self):
        other = Map(["x", "y", "z"], [("x", "y"), ("y", "z"), ("x", "z")])
        for made in [joined_maps(ring_of_posts(4), other), joined_maps(other, ring_of_posts(4))]:
            self.assertIs(good(made), False)
            self.assert_same(first_posts(made), ["x", "y", "z"])

    def test_great_maps_that_the_package_returned(self):
        posts = words(3000)
        row = [f"{x} {y};" for x, y in zip(posts, posts[1:])]
        text = f"map ({','.join(posts)}) {{{''.join(row)}}}"
        made = read_map(text)
        self.assertIs(judge_peeling(made, peeling_of(made)), True)
        self.assert_same(first_posts(made), [posts[0], posts[-1]])
        star = Map(posts, [(posts[7], x) for x in posts if x != posts[7]])
        self.assertIs(judge_peeling(star, peeling_of(star)), True)
        self.assertIs(good(ring_of_posts(3000)), False)


class TooManyTest(Case):
    def test_five_hundred_and_more(self):
        posts = list("abcdefgh")
        ties = "ae bc bf cf cg df dh ef eh fg fh gh".split()
        rows = all_peelings(Map(posts, [tuple(tie) for tie in ties]))
        self.assertEqual(len(rows), 500)
        self.assertEqual(rows, sorted(set(rows)))
        more = "ad bc ce ch df dh ef eh fg fh gh".split()
        self.assert_raises(TooGreat, {}, all_peelings, Map(posts, [tuple(tie) for tie in more]))

    def test_ascending_by_the_numbers_of_the_posts(self):
        rows = all_peelings(band(8, 3, words(8)[::-1]))
        self.assertEqual(rows, sorted(rows, reverse=True))
        self.assertGreater(len(rows), 8)

    def test_at_the_limits(self):
        for many in [6, 8, 16]:
            self.assert_raises(TooGreat, {}, all_peelings, plain_map(many))
            self.assert_raises(TooGreat, {}, all_peelings, band(many, many, words(many)))
        self.assertEqual(len(all_peelings(plain_map(5))), 120)
        self.assertEqual(len(all_peelings(band(8, 1, words(8)))), 128)


class WrongValuesTest(Case):
    def test_can_peel(self):
        for value in no_posts():
            self.assert_raises(UnknownName, {"name": value}, can_peel, peeled_map(), value)

    def test_what_is_no_peeling(self):
        made = peeled_map()
        right = ("e", "a", "d", "c", "b")
        for value in no_posts() + ["a", list(right), right[:4], right + ("a",), right + right, (right,), [right], {}]:
            self.assertIs(judge_peeling(made, value), False)
        for k, value in itertools.product(range(5), no_posts() + ["c", "b", "d"]):
            changed = right[:k] + (value,) + right[k + 1:]
            self.assertIs(judge_peeling(made, changed), changed == right)
