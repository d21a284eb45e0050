"""Changes: S8.2 to S8.5 and the interface, crossties/changes.py."""

import itertools
import random

from crossties.changes import can_tie, can_untie, change_paper, changed, good_changes, judge_change
from crossties.distances import distance
from crossties.errors import NotGood, UnknownName
from crossties.longrings import all_long_rings, judge_ring, long_ring_of
from crossties.maps import Map, both_near, joined_maps, map_without
from crossties.peelings import all_peelings, good, judge_peeling, peeling_of

from tests import plain
from tests.samples import (
    BAD_MAPS, GOOD_MAPS, Case, all_maps, all_small_maps, band, example, levels_map, no_posts, peeled_map, ring_of_posts,
    some, ties_of, words)


def small_maps():
    return [*all_small_maps(4), *some(all_maps("dbeca"), 150, 71)]


def ties_behind(ties, x, y):
    left = [tie for tie in ties if tie not in [(x, y), (y, x)]]
    return left if len(left) < len(ties) else ties + [(x, y)]


class ExampleTest(Case):
    def test_the_ring_with_a_cross_tie(self):
        made = levels_map()
        self.assertIs(can_untie(made, "a", "c"), False)
        self.assertIs(can_untie(made, "c", "a"), False)
        for x, y in ["ab", "bc", "cd", "ad"]:
            self.assertIs(can_untie(made, x, y), True)
        word, ring = change_paper(made, "a", "c")
        self.assertEqual(word, "ring")
        self.assertEqual((set(ring[::2]), set(ring[1::2])), ({"a", "c"}, {"b", "d"}))
        self.assertIs(can_tie(made, "b", "d"), True)
        self.assertIs(can_tie(made, "e", "b"), True)

    def test_a_tie_that_closes_a_ring(self):
        row = band(5, 1, list("abcde"))
        self.assertIs(can_tie(row, "a", "c"), True)
        self.assertIs(can_tie(row, "a", "d"), False)
        self.assertEqual(change_paper(row, "a", "d")[0], "ring")
        self.assertIs(can_tie(joined_maps(row, Map(["x"], [])), "x", "c"), True)


class SmallMapsTest(Case):
    def test_every_change(self):
        for posts, ties in small_maps():
            made = Map(posts, ties)
            wanted = []
            for x, y in ties_of(posts):
                behind = ties_behind(ties, x, y)
                is_good = plain.long_rings(posts, behind) == []
                wanted += [(x, y)] if is_good else []
                for one, other in [(x, y), (y, x)]:
                    self.assertEqual(changed(made, one, other), Map(posts, behind))
                    self.paper_is_right(made, one, other, is_good)
            self.assert_same(good_changes(made), wanted)

    def paper_is_right(self, made, x, y, is_good):
        behind = changed(made, x, y)
        paper = change_paper(made, x, y)
        self.assertIs(type(paper), tuple)
        word, row = paper
        self.assertIs(type(row), tuple)
        self.assert_same(word, "good" if is_good else "ring")
        self.assertIs((judge_peeling if is_good else judge_ring)(behind, row), True)
        self.assertIs(judge_change(made, x, y, paper), True)
        self.assertIs(judge_change(made, x, y, ("ring" if is_good else "good", row)), False)

    def test_what_can_be_tied_and_untied(self):
        for posts, ties in small_maps():
            made = Map(posts, ties)
            for x, y in itertools.product(posts, repeat=2):
                if plain.long_rings(posts, ties):
                    for call in [can_tie, can_untie]:
                        self.assert_raises(NotGood, {"ring": long_ring_of(made)}, call, made, x, y)
                    continue
                is_tied = (x, y) in ties or (y, x) in ties
                is_good = x != y and plain.long_rings(posts, ties_behind(ties, x, y)) == []
                self.assertIs(can_untie(made, x, y), is_tied and is_good)
                self.assertIs(can_tie(made, x, y), not is_tied and is_good)

    def test_all_papers(self):
        for posts, ties in some(small_maps(), 60, 72):
            made = Map(posts, ties)
            for x, y in ties_of(posts):
                behind = changed(made, x, y)
                for row in all_peelings(behind):
                    self.assertIs(judge_change(made, x, y, ("good", row)), True)
                    self.assertIs(judge_change(made, y, x, ("good", list(row))), False)
                for ring in all_long_rings(behind):
                    for k in range(len(ring)):
                        turned = ring[k:] + ring[:k]
                        self.assertIs(judge_change(made, x, y, ("ring", turned)), True)
                        self.assertIs(judge_change(made, y, x, ("ring", turned[::-1])), True)

    def test_papers_of_other_changes(self):
        for posts, ties in some(small_maps(), 60, 73):
            made = Map(posts, ties)
            for one, other in itertools.product(ties_of(posts), repeat=2):
                word, row = change_paper(made, *one)
                behind = changed(made, *other)
                wanted = judge_peeling(behind, row) if word == "good" else judge_ring(behind, row)
                self.assertIs(judge_change(made, *other, (word, row)), wanted)


class GreaterMapsTest(Case):
    def test_good_maps(self):
        choose = random.Random(74)
        for made in GOOD_MAPS:
            found = good_changes(made)
            for _ in range(12):
                x, y = choose.sample(made.posts(), 2)
                both = [z for z in both_near(made, x, y) if z not in (x, y)]
                if made.is_near(x, y):
                    wanted = all(made.is_near(a, b) for a in both for b in both)
                    self.assertIs(can_untie(made, x, y), wanted)
                    self.assertIs(can_tie(made, x, y), False)
                else:
                    wanted = distance(map_without(made, both), x, y) is None
                    self.assertIs(can_tie(made, x, y), wanted)
                    self.assertIs(can_untie(made, x, y), False)
                self.assertIs(wanted, good(changed(made, x, y)))
                self.assertIs((x, y) in found or (y, x) in found, wanted)
                self.assertIs(judge_change(made, x, y, change_paper(made, x, y)), True)

    def test_bad_maps(self):
        for made in BAD_MAPS:
            found = good_changes(made)
            self.assert_same(found, [
                (x, y) for x, y in ties_of(made.posts()) if good(changed(made, x, y))])
            for x, y in some(ties_of(made.posts()), 10, 75):
                self.assertIs(judge_change(made, x, y, change_paper(made, x, y)), True)
                self.assertEqual(change_paper(made, x, y)[0], "good" if (x, y) in found else "ring")
        self.assert_same(good_changes(ring_of_posts(4)), ties_of(words(4)))
        self.assert_same(good_changes(ring_of_posts(5)), sorted(ring_of_posts(5).ties()))
        self.assert_same(good_changes(Map([], [])), [])
        self.assert_same(good_changes(Map(["a"], [])), [])

    def test_what_is_made_anew(self):
        for made in GOOD_MAPS[::3] + BAD_MAPS:
            again = Map(made.posts(), [(y, x) for x, y in made.ties()[::-1]])
            for x, y in some(ties_of(made.posts()), 6, 76):
                self.assert_same(change_paper(made, x, y), change_paper(again, x, y))
                self.assert_same(change_paper(made, x, y), change_paper(made, x, y))
                self.assertEqual(changed(changed(made, x, y), y, x), made)


CALLS = [changed, can_untie, can_tie, change_paper, lambda made, x, y: judge_change(made, x, y, None)]


class ErrorsTest(Case):
    def test_names_that_are_no_posts(self):
        for made in [example(), peeled_map(), joined_maps(example(), ring_of_posts(4))]:
            for call, value in itertools.product(CALLS, no_posts()):
                self.assert_raises(UnknownName, {"name": value}, call, made, value, "a")
                self.assert_raises(UnknownName, {"name": value}, call, made, "a", value)
                self.assert_raises(UnknownName, {"name": value}, call, made, value, value)
                self.assert_raises(UnknownName, {"name": value}, call, made, value, "x")
                self.assert_raises(UnknownName, {"name": "x"}, call, made, "x", value)
        for call in CALLS:
            self.assert_raises(UnknownName, {"name": "b"}, call, Map([], []), "b", "a")

    def test_one_post_twice(self):
        for made in GOOD_MAPS[:5] + BAD_MAPS:
            for x in made.posts()[:4]:
                self.assert_raises(UnknownName, {"name": x}, changed, made, x, x)
                self.assert_raises(UnknownName, {"name": x}, change_paper, made, x, x)
                for value in [None, ("good", peeling_of(made)), ("ring", long_ring_of(made))]:
                    self.assertIs(judge_change(made, x, x, value), False)
        for x in peeled_map().posts():
            self.assertIs(can_tie(peeled_map(), x, x), False)
            self.assertIs(can_untie(peeled_map(), x, x), False)

    def test_a_long_ring_comes_behind_the_names(self):
        for made in BAD_MAPS:
            x, y = made.posts()[:2]
            for call in [can_tie, can_untie]:
                for one, other in [(x, y), (y, x), (x, x)]:
                    self.assert_raises(NotGood, {"ring": long_ring_of(made)}, call, made, one, other)
                self.assert_raises(UnknownName, {"name": "q"}, call, made, x, "q")
                self.assert_raises(UnknownName, {"name": ["q"]}, call, made, ["q"], y)

    def test_values_that_are_no_papers(self):
        for made, x, y in [(levels_map(), "a", "c"), (levels_map(), "a", "b"), (ring_of_posts(4), "p0", "p2")]:
            word, row = change_paper(made, x, y)
            for value in no_posts() + [
                    [word, row], (word,), (word, row, row), (row, word), (word, list(row)), word + " ", row, (word, ()),
                    ("", row), (None, row), (True, row), ((word,), row), (word, row[::-1][1:]), (word, (row,))]:
                self.assertIs(judge_change(made, x, y, value), False)
            for value in no_posts():
                self.assertIs(judge_change(made, x, y, (word, value)), False)
                self.assertIs(judge_change(made, x, y, (value, row)), False)
