"""Breaks: S8.1 and the interface, crossties/breaking.py."""

import itertools

from crossties.breaking import breaking, judge_breaking
from crossties.house import House
from crossties.longrings import all_long_rings, judge_ring, long_ring_of
from crossties.maps import Map, joined_maps
from crossties.parties import Party
from crossties.plainwalks import fewest_by_walks
from crossties.stands import Stand
from crossties.ways import apart

from tests import plain
from tests.samples import (
    BAD_MAPS, GOOD_MAPS, Case, all_maps, all_small_maps, example, no_posts, peeled_map, ring_of_posts, words)


def ring_bonds(things):
    return list(zip(things, things[1:] + things[:1]))


def break_by(made, ring, things, bonds=None, posts=None, goals=None):
    """A triple like a break, with other things, bonds or posts where they are told."""
    party = Party(things, ring_bonds(things) if bonds is None else bonds)
    return ring, Stand(made, party, posts or ring), Stand(made, party, goals or ring[1:] + ring[:1])


class BreakingTest(Case):
    def is_break(self, made, value):
        self.assertIs(type(value), tuple)
        ring, f, g = value
        self.assertIs(judge_ring(made, ring), True)
        things = words(len(ring), "t")
        self.assert_same(f.party().things(), things)
        self.assertEqual(f.party(), Party(things, ring_bonds(things)))
        self.assertEqual(g.party(), f.party())
        self.assertEqual((f.map(), g.map()), (made, made))
        self.assert_same(f.posts(), ring)
        self.assert_same(g.posts(), ring[1:] + ring[:1])
        self.assert_same(apart(f, g), len(ring))
        self.assertIs(judge_breaking(made, value), True)

    def test_bad_maps(self):
        for made in BAD_MAPS:
            self.is_break(made, breaking(made))

    def test_good_maps(self):
        for made in GOOD_MAPS + [Map([], []), example(), peeled_map()]:
            self.assertIs(breaking(made), None)

    def test_small_maps(self):
        rows = itertools.chain(all_small_maps(4), all_maps("dbeca"))
        for posts, ties in rows:
            made = Map(posts, ties)
            if plain.long_rings(posts, ties) == []:
                self.assertIs(breaking(made), None)
            else:
                self.is_break(made, breaking(made))

    def test_no_script_of_so_many_steps(self):
        for posts, ties in [*all_small_maps(4), *list(all_maps("dbeca"))[::7]]:
            if plain.long_rings(posts, ties):
                ring, f, g = breaking(Map(posts, ties))
                self.assertIs(fewest_by_walks(f, g, len(ring)), None)
        for many in [4, 5, 6, 7]:
            ring, f, g = breaking(ring_of_posts(many))
            self.assertIs(fewest_by_walks(f, g, many), None)

    def test_a_repeated_call(self):
        for made in BAD_MAPS:
            again = Map(made.posts(), made.ties()[::-1])
            self.assertEqual(breaking(made), breaking(again))


class JudgeTest(Case):
    def test_a_long_ring_from_any_post_on_and_with_any_names(self):
        for many in [4, 5, 6]:
            made = ring_of_posts(many)
            ring = tuple(made.posts())
            for k in range(many):
                for row in [ring[k:] + ring[:k], (ring[k:] + ring[:k])[::-1]]:
                    for things in [words(many, "t"), words(many, "zz")[::-1], ["a", "p0", "w", "t3", "t0", "b"][:many]]:
                        self.assertIs(judge_breaking(made, break_by(made, row, things)), True)

    def test_all_long_rings(self):
        for made in [Map(posts, ties) for posts, ties in list(all_maps("dbeca"))[::5]]:
            for ring in all_long_rings(made):
                self.assertIs(judge_breaking(made, break_by(made, ring, words(len(ring), "t"))), True)

    def test_equal_maps_and_parties_made_anew(self):
        made = ring_of_posts(5)
        ring = tuple(made.posts())
        things = words(5, "t")
        turned = [(other, one) for one, other in ring_bonds(things)[::-1]]
        _, f, _ = break_by(ring_of_posts(5), ring, things)
        _, _, g = break_by(ring_of_posts(5), ring, things, turned)
        self.assertIs(judge_breaking(made, (ring, f, g)), True)

    def test_stands_on_other_maps(self):
        made = ring_of_posts(5)
        ring = tuple(made.posts())
        right = break_by(made, ring, words(5, "t"))
        for other in [Map(made.posts()[::-1], made.ties()), joined_maps(made, Map(["x"], []))]:
            wrong = break_by(other, ring, words(5, "t"))
            self.assertIs(judge_breaking(other, wrong), True)
            self.assertIs(judge_breaking(other, right), False)
            self.assertIs(judge_breaking(made, (ring, wrong[1], right[2])), False)
            self.assertIs(judge_breaking(made, (ring, right[1], wrong[2])), False)

    def test_other_bonds(self):
        made = ring_of_posts(4)
        ring = tuple(made.posts())
        things = words(4, "t")
        bonds = ring_bonds(things)
        right = break_by(made, ring, things)
        self.assertIs(judge_breaking(made, right), True)
        for k in range(4):
            self.assertIs(judge_breaking(made, break_by(made, ring, things, bonds[:k] + bonds[k + 1:])), False)
        self.assertIs(judge_breaking(made, break_by(made, ring, things, [])), False)
        for other in [break_by(made, ring, things, bonds[1:]), break_by(made, ring, things[1:] + things[:1]),
                      break_by(made, ring, words(4, "s"))]:
            self.assertIs(judge_breaking(made, (ring, right[1], other[2])), False)
            self.assertIs(judge_breaking(made, (ring, other[1], right[2])), False)

    def test_a_bond_more(self):
        """Of posts that are tied beside the ring, things could have a bond more; a ring of four has none to spare."""
        made = ring_of_posts(4)
        ring = tuple(made.posts())
        party = Party(words(5, "t"), ring_bonds(words(4, "t")))
        f = Stand(made, party, ring + ("p0",))
        g = Stand(made, party, ring[1:] + ("p0", "p0"))
        self.assertIs(judge_breaking(made, (ring, f, g)), False)
        crossed = Map(list("abcd"), [("a", "b"), ("b", "c"), ("c", "d"), ("a", "d"), ("a", "c")])
        value = break_by(crossed, tuple("abcd"), words(4, "t"))
        self.assertIs(judge_breaking(crossed, value), False)
        bonds = ring_bonds(words(4, "t")) + [("t0", "t2")]
        wrong = (tuple("abcd"), Stand(crossed, Party(words(4, "t"), bonds), "a b c d".split()),
                 Stand(crossed, Party(words(4, "t"), ring_bonds(words(4, "t"))), "b c d a".split()))
        self.assertIs(judge_breaking(crossed, wrong), False)

    def test_other_posts(self):
        made = ring_of_posts(4)
        ring = tuple(made.posts())
        things = words(4, "t")
        right = break_by(made, ring, things)
        self.assertIs(judge_breaking(made, (ring, right[2], right[1])), False)
        self.assertIs(judge_breaking(made, (ring, right[1], right[1])), False)
        self.assertIs(judge_breaking(made, (ring, right[2], right[2])), False)
        self.assertIs(judge_breaking(made, (ring[::-1], right[1], right[2])), False)
        self.assertIs(judge_breaking(made, (ring[1:] + ring[:1], right[1], right[2])), False)
        self.assertIs(judge_breaking(made, break_by(made, ring, things, goals=ring[-1:] + ring[:-1])), False)

    def test_rings_that_are_not_long(self):
        for posts, ties in [("abc", ["ab", "bc", "ca"]), ("abcd", ["ab", "bc", "cd", "da", "ac"])]:
            made = Map(list(posts), [tuple(tie) for tie in ties])
            for many in range(3, len(posts) + 1):
                ring = tuple(posts)[:many]
                self.assertIs(judge_breaking(made, break_by(made, ring, words(many, "t"))), False)

    def test_values_of_all_kinds(self):
        made = ring_of_posts(4)
        ring, f, g = breaking(made)
        for value in no_posts() + [
                [ring, f, g], (ring, f), (ring, f, g, g), (list(ring), f, g), (f, g), (f, ring, g), (ring, (f, g)),
                (ring, f.posts(), g.posts()), (ring, House(f), House(g)), ring, (), (ring,), (long_ring_of(made), None)]:
            self.assertIs(judge_breaking(made, value), False)
        for value in no_posts():
            for row in [(value, f, g), (ring, value, g), (ring, f, value)]:
                self.assertIs(judge_breaking(made, row), False)
        for posts, ties in all_small_maps(3):
            self.assertIs(judge_breaking(Map(posts, ties), (ring, f, g)), False)
