"""What scripts can do, by going through: S5.1, S5.3, S5.4, S5.6, S5.7 and the interface, crossties/plainwalks.py."""

import random

from crossties.errors import TooGreat, UnlikeMaps, UnlikeParties
from crossties.maps import Map, joined_maps
from crossties.parties import Party
from crossties.plainwalks import (
    cheapest_by_walks, cheapest_walk, fewest_by_walks, reached, walk_by_walks, within)
from crossties.stands import Stand, gathered

from tests import plain
from tests.samples import (
    FORK_WORLD, LINE_WORLD, RING_WORLD, Case, band, made_stand, no_posts, plain_map, random_worlds, ring_of_posts, some,
    words)


def told(pairs):
    return [(stand.posts(), steps) for stand, steps in pairs]


def least_prices(world, row, prices):
    """The least price of each stand to which scripts lead, by making prices less until none can be."""
    costs = {row: 0}
    changed = True
    while changed:
        changed = False
        for here in list(costs):
            for step in plain.steps(world, here):
                there = plain.after(world, here, step)
                cost = costs[here] + prices[world[2].index(step[0])]
                if cost < costs.get(there, cost + 1):
                    costs[there] = cost
                    changed = True
    return costs


def price_of(world, prices, script):
    return sum(prices[world[2].index(thing)] for thing, _ in script)


class ExampleTest(Case):
    def test_the_fork(self):
        f = made_stand(FORK_WORLD, ("a", "b"))
        g = made_stand(FORK_WORLD, ("c", "d"))
        self.assert_same(told(within(f, 0)), [(("a", "b"), 0)])
        self.assert_same(told(within(f, 1)), [(("a", "b"), 0), (("a", "a"), 1), (("b", "b"), 1)])
        self.assert_same(told(within(f, 2)), told(within(f, 1)) + [
            (("b", "a"), 2), (("b", "c"), 2), (("b", "d"), 2), (("c", "b"), 2), (("d", "b"), 2)])
        self.assert_same(fewest_by_walks(f, g, 2), None)
        self.assert_same(walk_by_walks(f, g, 2), None)
        self.assert_same(fewest_by_walks(f, g, 3), 3)
        self.assert_same(fewest_by_walks(f, g, 12), 3)
        walk = walk_by_walks(f, g, 3)
        self.assertEqual(len(walk), 3)
        self.assertEqual(plain.leads(FORK_WORLD, ("a", "b"), walk), ("c", "d"))
        self.assert_same(cheapest_by_walks(f, g, [2, 5]), 9)
        self.assertEqual(plain.leads(FORK_WORLD, ("a", "b"), cheapest_walk(f, g, [2, 5])), ("c", "d"))

    def test_the_stuck_ring(self):
        f = made_stand(RING_WORLD, tuple("abcd"))
        g = made_stand(RING_WORLD, tuple("bcda"))
        self.assert_same(told(within(f, 12)), [(tuple("abcd"), 0)])
        self.assert_same([stand.posts() for stand in reached(f)], [tuple("abcd")])
        for most in [0, 4, 12]:
            self.assert_same(fewest_by_walks(f, g, most), None)
            self.assert_same(walk_by_walks(f, g, most), None)
            self.assert_same(fewest_by_walks(f, f, most), 0)
        self.assert_same(cheapest_by_walks(f, g, [0, 0, 0, 0]), None)
        self.assert_same(cheapest_walk(f, g, [1, 1, 1, 1]), None)
        self.assert_same(fewest_by_walks(gathered(f.map(), f.party(), "a"), f, 12), None)


class EmptyTest(Case):
    def test_no_things(self):
        for made in [Map([], []), plain_map(3), ring_of_posts(4)]:
            f = Stand(made, Party([], []), ())
            for most in [0, 1, 12]:
                self.assertEqual(within(f, most), [(f, 0)])
                self.assert_same(fewest_by_walks(f, f, most), 0)
                self.assert_same(walk_by_walks(f, f, most), [])
            self.assertEqual(reached(f), [f])
            self.assert_same(cheapest_by_walks(f, f, []), 0)
            self.assert_same(cheapest_walk(f, f, []), [])

    def test_a_stand_and_itself(self):
        for world in random_worlds(20, 4):
            for row in some(plain.stands(*world), 3, 4):
                f = made_stand(world, row)
                for most in [0, 3]:
                    self.assert_same(fewest_by_walks(f, made_stand(world, row), most), 0)
                    self.assert_same(walk_by_walks(f, made_stand(world, row), most), [])
                for price in [0, 7]:
                    self.assert_same(cheapest_by_walks(f, f, [price] * len(row)), 0)
                    self.assert_same(cheapest_walk(f, f, (price,) * len(row)), [])

    def test_no_ties(self):
        made = plain_map(3)
        party = Party(["u", "v"], [("u", "v")])
        f = gathered(made, party, "p1")
        self.assertEqual(within(f, 12), [(f, 0)])
        self.assert_same(fewest_by_walks(f, gathered(made, party, "p2"), 12), None)
        self.assert_same(cheapest_walk(f, gathered(made, party, "p2"), [0, 0]), None)


class SmallWorldsTest(Case):
    def test_within_and_reached(self):
        for world in random_worlds(60, 5):
            for row in some(plain.stands(*world), 3, 5):
                found = plain.walks(world, row)
                ordered = sorted(plain.in_order(world, found), key=found.get)
                f = made_stand(world, row)
                for most in [0, 1, 2, 3, 12]:
                    wanted = [(there, found[there]) for there in ordered if found[there] <= most]
                    self.assert_same(told(within(f, most)), wanted)
                stands = reached(f)
                self.assert_same([stand.posts() for stand in stands], ordered)
                for stand in stands:
                    self.assertIs(stand.map() == f.map() and stand.party() == f.party(), True)

    def test_fewest_and_cheapest(self):
        choose = random.Random(6)
        for world in random_worlds(60, 6):
            stands = plain.stands(*world)
            for row in some(stands, 2, 6):
                found = plain.walks(world, row)
                prices = [choose.choice([0, 0, 1, 2, 5, 1000]) for _ in row]
                costs = least_prices(world, row, prices)
                for there in some(stands, 8, 7):
                    self.agree(world, row, there, found.get(there))
                    self.agree_on_price(world, row, there, prices, costs.get(there))

    def agree(self, world, row, there, steps):
        f = made_stand(world, row)
        g = made_stand(world, there)
        for most in [0, 1, 2, 12]:
            wanted = steps if steps is not None and steps <= most else None
            self.assert_same(fewest_by_walks(f, g, most), wanted)
            walk = walk_by_walks(f, g, most)
            if wanted is None:
                self.assertIs(walk, None)
            else:
                self.assertIs(type(walk), list)
                self.assertEqual(len(walk), wanted)
                self.assertEqual(plain.leads(world, row, walk), there)

    def agree_on_price(self, world, row, there, prices, cost):
        f = made_stand(world, row)
        g = made_stand(world, there)
        self.assert_same(cheapest_by_walks(f, g, prices), cost)
        walk = cheapest_walk(f, g, tuple(prices))
        if cost is None:
            self.assertIs(walk, None)
        else:
            self.assertEqual(price_of(world, prices, walk), cost)
            self.assertEqual(plain.leads(world, row, walk), there)

    def test_a_dearer_thing_makes_way_by_a_longer_script(self):
        """On a long ring the cheapest script may have more steps than the fewest one."""
        ring = ring_of_posts(5)
        world = (ring.posts(), ring.ties(), ["u", "v"], [("u", "v")])
        for row in plain.stands(*world):
            for prices in [[0, 1], [1, 0], [1, 100], [1000, 1], [0, 0]]:
                costs = least_prices(world, row, prices)
                for there in plain.stands(*world)[::2]:
                    self.agree_on_price(world, row, there, prices, costs.get(there))


class ManyStandsTest(Case):
    def test_five_hundred_stands_and_one_more(self):
        party = Party(["u"], [])
        for many in [500, 501]:
            made = plain_map(many)
            star = Map(made.posts(), [("p0", post) for post in made.posts()[1:]])
            f = Stand(star, party, ["p0"])
            far = Stand(star, party, ["p7"])
            if many == 500:
                self.assertEqual(len(reached(f)), 500)
                self.assert_same(told(within(f, 1)), [(("p0",), 0)] + [((f"p{k}",), 1) for k in range(1, 500)])
                self.assertEqual(len(within(far, 2)), 500)
            else:
                self.assert_raises(TooGreat, {}, reached, f)
                self.assert_raises(TooGreat, {}, within, f, 1)
                self.assert_raises(TooGreat, {}, within, far, 12)
                self.assert_raises(TooGreat, {}, within, far, 2)
            self.assert_same(told(within(f, 0)), [(("p0",), 0)])
            self.assert_same(told(within(far, 1)), [(("p7",), 0), (("p0",), 1)])

    def test_five_hundred_stands_of_four_things(self):
        made = joined_maps(band(4, 4, words(4, "a")), band(5, 5, words(5, "b")))
        party = Party(list("tuvw"), [])
        f = Stand(made, party, ["a0", "b0", "b1", "b2"])
        stands = reached(f)
        self.assertEqual(len(stands), 500)
        self.assertEqual(stands, [stand for stand, _ in within(f, 12)])
        self.assertEqual(len(within(f, 4)), 500)
        self.assertEqual(len(within(f, 3)), 500 - 3 * 64)
        g = Stand(made, party, ["a3", "b4", "b4", "b4"])
        self.assert_same(fewest_by_walks(f, g, 12), 4)
        self.assert_same(cheapest_by_walks(f, g, [1, 20, 300, 1000]), 1321)
        more = Stand(made, Party(list("stuvw"), []), ["a0", "a0", "b0", "b1", "b2"])
        self.assert_raises(TooGreat, {}, reached, more)
        self.assertEqual(len(within(more, 2)), 1 + 18 + 9 + 6 * 12 + 48)

    def test_only_what_would_be_returned_counts(self):
        posts = words(16)
        made = band(16, 16, posts)
        party = Party(words(6, "t"), [])
        f = gathered(made, party, "p0")
        self.assertEqual(len(within(f, 1)), 91)
        for most in [2, 12]:
            self.assert_raises(TooGreat, {}, within, f, most)
        self.assert_raises(TooGreat, {}, reached, f)
        self.assert_same(fewest_by_walks(f, Stand(made, party, ["p1", "p2"] + ["p0"] * 4), 2), 2)
        self.assert_same(fewest_by_walks(f, Stand(made, party, ["p1", "p2"] + ["p0"] * 4), 1), None)

    def test_more_than_ten_posts_are_ordered_by_number(self):
        f = Stand(band(12, 12, words(12)), Party(["u"], []), ["p5"])
        self.assert_same([stand.posts()[0] for stand in reached(f)], ["p5"] + [x for x in words(12) if x != "p5"])

    def test_twelve_steps_and_more(self):
        row = band(16, 1, words(16))
        party = Party(["u", "v"], [("u", "v")])
        f = gathered(row, party, "p0")
        for far, steps in [("p6", 12), ("p5", 10), ("p7", None)]:
            g = gathered(row, party, far)
            self.assert_same(fewest_by_walks(f, g, 12), steps)
            walk = walk_by_walks(g, f, 12)
            self.assert_same(None if walk is None else len(walk), steps)
        self.assert_same(cheapest_by_walks(f, gathered(row, party, "p15"), [3, 1000]), 15 * 1003)


class UnlikeTest(Case):
    def test_unlike_maps_come_first_then_unlike_parties(self):
        f = made_stand(FORK_WORLD, ("a", "b"))
        other_map = made_stand((FORK_WORLD[0], FORK_WORLD[1][:3], *FORK_WORLD[2:]), ("a", "b"))
        other_party = made_stand((*FORK_WORLD[:3], []), ("a", "b"))
        neither = made_stand(LINE_WORLD, ("one", "one", "one"))
        turned = made_stand((FORK_WORLD[0][::-1], *FORK_WORLD[1:]), ("a", "b"))
        calls = [
            lambda one, other: fewest_by_walks(one, other, 12), lambda one, other: walk_by_walks(one, other, 0),
            lambda one, other: cheapest_by_walks(one, other, [1, 1]), lambda one, other: cheapest_walk(one, other, [0])]
        calls += [lambda one, other, value=value: cheapest_by_walks(one, other, value) for value in no_posts()[:6]]
        for call in calls:
            for other in [other_map, neither, turned]:
                self.assert_raises(UnlikeMaps, {}, call, f, other)
                self.assert_raises(UnlikeMaps, {}, call, other, f)
            self.assert_raises(UnlikeParties, {}, call, f, other_party)
            self.assert_raises(UnlikeParties, {}, call, other_party, f)

    def test_equal_maps_and_parties_that_were_made_anew(self):
        posts, ties, things, bonds = FORK_WORLD
        again = (tuple(posts), [(y, x) for x, y in ties[::-1]], tuple(things), [("v", "u")])
        f = made_stand(FORK_WORLD, ("a", "b"))
        self.assert_same(fewest_by_walks(f, made_stand(again, ("c", "d")), 3), 3)
        self.assert_same(cheapest_by_walks(made_stand(again, ("a", "b")), made_stand(FORK_WORLD, ("c", "d")), [2, 5]), 9)
