"""Rings and long rings: S2.1, S2.3 and the interface, crossties/longrings.py."""

import itertools

from crossties.longrings import all_long_rings, cross_ties, is_ring, judge_ring, long_ring_of
from crossties.maps import Map, joined_maps, with_tie
from crossties.peelings import good

from tests import plain
from tests.samples import (
    BAD_MAPS, GOOD_MAPS, Case, all_maps, all_small_maps, band, no_posts, peeled_map, plain_map, ring_of_posts, words)


def turned(ring):
    """A ring told from each of its posts on, in both directions."""
    rows = [ring[k:] + ring[:k] for k in range(len(ring))]
    return rows + [row[::-1] for row in rows]


class ExampleTest(Case):
    def test_rings_of_the_example(self):
        made = peeled_map()
        for ring in turned(("a", "b", "c")) + turned(("b", "c", "d")):
            self.assertIs(is_ring(made, ring), True)
            self.assert_same(cross_ties(made, ring), [])
            self.assertIs(judge_ring(made, ring), False)
        for ring in turned(("a", "b", "d", "c")):
            self.assertIs(is_ring(made, ring), True)
            self.assert_same(cross_ties(made, ring), [("b", "c")])
            self.assertIs(judge_ring(made, ring), False)
        self.assertIs(long_ring_of(made), None)
        self.assert_same(all_long_rings(made), [])


class EmptyTest(Case):
    def test_few_posts_and_no_ties(self):
        for many in range(4):
            self.assertIs(long_ring_of(plain_map(many)), None)
            self.assert_same(all_long_rings(plain_map(many)), [])
            for value in [(), *itertools.permutations(words(many))]:
                self.assertIs(is_ring(plain_map(many), value), False)
                self.assertIs(judge_ring(plain_map(many), value), False)


class SmallMapsTest(Case):
    def test_rings_of_every_map_of_at_most_four_posts(self):
        for posts, ties in all_small_maps(4):
            made = Map(posts, ties)
            for many in range(6):
                for row in itertools.product(posts, repeat=many):
                    if many < 4 or len(set(row)) > 2:
                        wanted = plain.is_ring(posts, ties, row)
                        self.assert_same(is_ring(made, row), wanted)
                        self.assert_same(judge_ring(made, row), wanted and plain.is_long_ring(posts, ties, row))
                        if wanted:
                            self.assert_same(cross_ties(made, row), plain.cross_ties(posts, ties, row))

    def test_long_rings_of_five_posts(self):
        for posts, ties in all_maps("caebd"):
            made = Map(posts, ties)
            rings = plain.long_rings(posts, ties)
            self.assert_same(all_long_rings(made), rings)
            self.assert_same(good(made), rings == [])
            if rings:
                self.assertTrue(plain.is_long_ring(posts, ties, long_ring_of(made)))
            else:
                self.assertIs(long_ring_of(made), None)
            for ring in rings:
                for row in turned(ring):
                    self.assertIs(judge_ring(made, row), True)


class LongRingTest(Case):
    def test_rings_of_all_lengths(self):
        for many in range(4, 17):
            made = ring_of_posts(many)
            ring = long_ring_of(made)
            self.assertIs(type(ring), tuple)
            self.assertEqual(len(ring), many)
            self.assertIs(judge_ring(made, ring), True)
            for row in turned(tuple(made.posts())):
                self.assertIs(judge_ring(made, row), True)
                self.assert_same(cross_ties(made, row), [])
            self.assert_same(all_long_rings(made), [tuple(made.posts())])

    def test_cross_ties_are_written_and_ordered_as_those_of_the_map(self):
        made = band(5, 5, ["e", "b", "d", "a", "c"])
        self.assert_same(cross_ties(made, ("a", "b", "c", "d", "e")), [
            ("e", "b"), ("e", "c"), ("b", "d"), ("d", "a"), ("a", "c")])
        self.assert_same(cross_ties(made, ("c", "d", "b", "a")), [("b", "c"), ("d", "a")])

    def test_greater_maps(self):
        for made in GOOD_MAPS:
            self.assertIs(long_ring_of(made), None)
        for made in BAD_MAPS:
            ring = long_ring_of(made)
            self.assertTrue(plain.is_long_ring(made.posts(), made.ties(), ring))
            self.assertIs(judge_ring(made, ring), True)

    def test_other_posts_tied_to_the_ring(self):
        ring = ring_of_posts(5)
        for many in range(1, 6):
            for chosen in itertools.combinations(ring.posts(), many):
                ties = ring.ties() + [(x, "x") for x in chosen] + [("x", "y"), ("z", "y")]
                for posts in [["x", "y", "z"] + ring.posts(), ring.posts() + ["z", "y", "x"]]:
                    made = Map(posts, ties)
                    self.assertIs(judge_ring(made, long_ring_of(made)), True)
                    self.assertIn(long_ring_of(made), [row for one in all_long_rings(made) for row in turned(one)])

    def test_the_last_tie_makes_a_map_good(self):
        made = ring_of_posts(6)
        p = made.posts()
        for x, y in [(p[0], p[2]), (p[2], p[4])]:
            made = with_tie(made, x, y)
            self.assertIs(judge_ring(made, long_ring_of(made)), True)
        self.assertIs(long_ring_of(with_tie(made, p[4], p[0])), None)

    def test_several_long_rings(self):
        made = joined_maps(ring_of_posts(4), Map(list("dcba"), [("a", "b"), ("b", "c"), ("c", "d"), ("d", "a")]))
        self.assert_same(all_long_rings(made), [tuple(words(4)), ("d", "c", "b", "a")])
        cube = Map(words(8), [(x, y) for i, x in enumerate(words(8)) for j, y in enumerate(words(8))
                              if i < j and (i ^ j) in (1, 2, 4)])
        rings = all_long_rings(cube)
        self.assert_same(rings, plain.long_rings(cube.posts(), cube.ties()))
        self.assertEqual([len(row) for row in rings].count(4), 6)
        self.assertEqual([len(row) for row in rings].count(6), 4)

    def test_a_great_ring_that_the_package_returned(self):
        made = ring_of_posts(3000)
        ring = long_ring_of(made)
        self.assertEqual(len(ring), 3000)
        self.assertIs(judge_ring(made, ring), True)
        wheel = Map(made.posts() + ["hub"], made.ties() + [(x, "hub") for x in made.posts()])
        self.assertIs(judge_ring(wheel, long_ring_of(wheel)), True)


class WrongValuesTest(Case):
    def test_what_is_no_ring(self):
        made = ring_of_posts(4)
        ring = tuple(made.posts())
        values = [
            list(ring), ring[:3], ring[:2], ring[:1], ring + ring, ring + ring[:1], ring[:2] + ring[:2], (ring,), [ring],
            (ring[0], ring[2], ring[1], ring[3])]
        for value in no_posts() + values:
            self.assertIs(is_ring(made, value), False)
            self.assertIs(judge_ring(made, value), False)
        for k, value in itertools.product(range(4), no_posts() + list(ring)):
            changed = ring[:k] + (value,) + ring[k + 1:]
            self.assertIs(is_ring(made, changed), changed == ring)
            self.assertIs(judge_ring(made, changed), changed == ring)
