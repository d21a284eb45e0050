"""Steps that begin a fewest way, and what lies between: S6.6 to S6.8, S8.1 and the interface, crossties/between.py."""

import itertools
import random

from crossties.between import all_between, begins, change_of, first_steps, is_between, nearest_stand
from crossties.errors import BadStep, NoRoad, NotGood, TooGreat, UnlikeMaps, UnlikeParties
from crossties.longrings import long_ring_of
from crossties.maps import Map, joined_maps
from crossties.parties import Party
from crossties.plainwalks import fewest_by_walks
from crossties.stands import Stand, gathered
from crossties.steps import all_steps, done
from crossties.ways import apart

from tests import plain
from tests.samples import (
    BAD_MAPS, GOOD_MAPS, KITE_WORLD, RING_WORLD, Case, band, good_worlds, layered_map, long_worlds, made_stand,
    no_posts, random_worlds, ring_of_posts, some, ties_of, unlike_stands, words)

START = ("a", "b", "b")
END = ("d", "d", "c")


def kite():
    return made_stand(KITE_WORLD, START), made_stand(KITE_WORLD, END)


def far_apart(world, row, there):
    """How far two stands are apart, or None if some thing has no road."""
    found = plain.distances(world[0], world[1])
    far = [found.get(pair) for pair in zip(row, there)]
    return None if None in far else sum(far)


def lies_between(world, row, middle, there):
    one, other = far_apart(world, row, middle), far_apart(world, middle, there)
    return one is not None and other is not None and one + other == far_apart(world, row, there)


def between(world, row, there):
    """All stands between two ones, in order."""
    rows = [middle for middle in plain.stands(*world) if lies_between(world, row, middle, there)]
    return sorted(plain.in_order(world, rows), key=lambda middle: far_apart(world, row, middle))


class ExampleTest(Case):
    def test_steps_that_begin_a_fewest_way(self):
        f, g = kite()
        self.assert_same(first_steps(f, g), [("u", "b"), ("u", "c"), ("w", "c")])
        for step in all_steps(f):
            self.assert_same(begins(f, g, step), step in first_steps(f, g))
        self.assert_raises(BadStep, {"number": 0}, begins, f, g, ("v", "d"))
        self.assert_same([change_of(f, g, step) for step in [("u", "b"), ("w", "c"), ("w", "a")]], [-1, -1, 0])
        self.assert_same([change_of(g, f, step) for step in [("v", "b"), ("w", "d"), ("u", "c")]], [-1, 0, -1])
        self.assert_same(change_of(f, f, ("u", "c")), 1)

    def test_what_is_between(self):
        f, g = kite()
        for row, wanted in [(("b", "b", "c"), True), (("c", "d", "b"), True), (("a", "c", "b"), False),
                            (START, True), (END, True)]:
            self.assertIs(is_between(f, made_stand(KITE_WORLD, row), g), wanted)
        rows = [stand.posts() for stand in all_between(f, g)]
        self.assert_same(rows, between(KITE_WORLD, START, END))
        self.assertEqual((rows[0], rows[-1]), (START, END))

    def test_the_nearest_stand(self):
        f, g = kite()
        rows = [END, ("b", "b", "b"), ("a", "a", "b"), ("c", "b", "b")]
        self.assert_same(nearest_stand(f, [made_stand(KITE_WORLD, row) for row in rows]), 1)
        self.assert_same(nearest_stand(g, [made_stand(KITE_WORLD, row) for row in rows]), 0)
        self.assert_same(nearest_stand(f, (g, f, f)), 1)
        self.assert_same(nearest_stand(f, [f]), 0)


class EmptyTest(Case):
    def test_no_things(self):
        for made in [Map([], []), Map(["a", "b"], []), ring_of_posts(4)]:
            f = Stand(made, Party([], []), ())
            self.assertIs(is_between(f, f, f), True)
            self.assertEqual(all_between(f, f), [f])
            self.assert_same(nearest_stand(f, [f, f]), 0)
            self.assert_raises(BadStep, {"number": 0}, change_of, f, f, ("u", "a"))
            if long_ring_of(made) is None:
                self.assert_same(first_steps(f, f), [])
                self.assert_raises(BadStep, {"number": 0}, begins, f, f, ("u", "a"))
            else:
                self.assert_raises(NotGood, {"ring": long_ring_of(made)}, first_steps, f, f)
                self.assert_raises(NotGood, {"ring": long_ring_of(made)}, begins, f, f, None)

    def test_equal_stands(self):
        for world in good_worlds(30, 31):
            for row in some(plain.stands(*world), 3, 31):
                f, g = made_stand(world, row), made_stand(world, row)
                self.assert_same(first_steps(f, g), [])
                self.assertEqual(all_between(f, g), [f])
                self.assertIs(is_between(f, f, g), True)
                for step in all_steps(f):
                    self.assert_same(change_of(f, g, step), 1)
                    self.assertIs(begins(f, g, step), False)
                    self.assertIs(is_between(f, done(f, step), g), False)


class SmallWorldsTest(Case):
    def test_steps_of_good_maps(self):
        for world in good_worlds(60, 32) + long_worlds():
            stands = plain.stands(*world)
            for there in some(stands, 3, 32):
                found = plain.walks(world, there)
                for row in some(stands, 6, 33):
                    if row in found:
                        steps = plain.steps(world, row)
                        nearer = [step for step in steps if found[plain.after(world, row, step)] == found[row] - 1]
                        f, g = made_stand(world, row), made_stand(world, there)
                        self.assert_same(first_steps(f, g), nearer)
                        self.assertEqual(nearer == [], row == there)
                        for step in steps:
                            self.assert_same(begins(f, g, step), step in nearer)

    def test_changes_on_every_map(self):
        for world in random_worlds(100, 34):
            stands = plain.stands(*world)
            for row, there in zip(some(stands, 4, 34), some(stands, 4, 35)):
                far = far_apart(world, row, there)
                f, g = made_stand(world, row), made_stand(world, there)
                for step in plain.steps(world, row):
                    if far is not None:
                        change = far_apart(world, plain.after(world, row, step), there) - far
                        self.assert_same(change_of(f, g, step), change)

    def test_between_on_every_map(self):
        for world in random_worlds(80, 36) + long_worlds():
            stands = plain.stands(*world)
            for row, there in zip(some(stands, 3, 36), some(stands, 3, 37)):
                if far_apart(world, row, there) is None:
                    continue
                f, g = made_stand(world, row), made_stand(world, there)
                told = all_between(f, g)
                self.assert_same([stand.posts() for stand in told], between(world, row, there))
                self.assertIs(all(stand.map() == f.map() and stand.party() == f.party() for stand in told), True)
                for middle in some(stands, 20, 38):
                    wanted = lies_between(world, row, middle, there)
                    self.assert_same(is_between(f, made_stand(world, middle), g), wanted)

    def test_between_are_the_stands_of_fewest_ways(self):
        for world in good_worlds(20, 39, 4, 3):
            stands = plain.stands(*world)
            for row, there in zip(some(stands, 3, 39), some(stands, 3, 40)):
                f, g = made_stand(world, row), made_stand(world, there)
                whole = fewest_by_walks(f, g, 12)
                for middle in stands if whole is not None else []:
                    h = made_stand(world, middle)
                    one, other = fewest_by_walks(f, h, 12), fewest_by_walks(h, g, 12)
                    on_a_way = one is not None and other is not None and one + other == whole
                    self.assert_same(is_between(f, h, g), on_a_way)

    def test_the_nearest_of_all_stands(self):
        choose = random.Random(41)
        for world in random_worlds(60, 41):
            stands = plain.stands(*world)
            if not stands:
                continue
            row = choose.choice(stands)
            rows = [choose.choice(stands) for _ in range(choose.randrange(1, 6))]
            far = [far_apart(world, row, there) for there in rows]
            known = [n for n in far if n is not None]
            wanted = far.index(min(known)) if known else None
            made = [made_stand(world, there) for there in rows]
            self.assert_same(nearest_stand(made_stand(world, row), made), wanted)


class GreaterMapsTest(Case):
    def test_each_next_step_follows(self):
        choose = random.Random(42)
        for made in GOOD_MAPS:
            things = words(16, "t")
            party = Party(things, [bond for bond in ties_of(things) if choose.random() < 0.3])
            f, g = gathered(made, party, made.posts()[0]), gathered(made, party, made.posts()[-1])
            try:
                left = min(apart(f, g), 24)
            except NoRoad:
                self.assert_raises(NoRoad, {"thing": "t0"}, first_steps, f, g)
                continue
            for _ in range(left):
                steps = first_steps(f, g)
                step = choose.choice(steps)
                self.assertIs(begins(f, g, step), True)
                self.assert_same(change_of(f, g, step), -1)
                self.assertEqual(apart(done(f, step), g), apart(f, g) - 1)
                f = done(f, step)

    def test_eight_things_bonded_in_a_row(self):
        made = band(16, 1, words(16))
        things = words(8, "t")
        party = Party(things, list(zip(things, things[1:])))
        f, g = gathered(made, party, "p3"), gathered(made, party, "p4")
        rows = [stand.posts() for stand in all_between(f, g)]
        self.assertEqual(len(rows), 256)
        self.assertEqual(rows, sorted(set(rows), key=lambda row: (row.count("p4"), row)))
        self.assert_raises(TooGreat, {}, all_between, f, gathered(made, party, "p5"))

    def test_sixteen_things_that_stay_together(self):
        made = ring_of_posts(16)
        things = words(16, "t")
        bonds = list(zip(things, things[1:] + things[:1]))
        f = Stand(made, Party(things, bonds), made.posts())
        g = Stand(made, f.party(), made.posts()[1:] + made.posts()[:1])
        self.assertEqual(all_between(f, g), [f, g])
        self.assert_same(apart(f, g), 16)

    def test_five_hundred_stands_and_one_more(self):
        party = Party(["u"], [])
        for many in [498, 499]:
            made, _ = layered_map([1, many, 1])
            f, g = Stand(made, party, ["a0"]), Stand(made, party, ["c0"])
            if many == 498:
                rows = [stand.posts()[0] for stand in all_between(f, g)]
                self.assert_same(rows, ["a0", *[f"b{k}" for k in range(498)], "c0"])
            else:
                self.assert_raises(TooGreat, {}, all_between, f, g)
                self.assert_raises(TooGreat, {}, all_between, g, f)

    def test_more_than_five_hundred_of_eight_things(self):
        made = band(16, 16, words(16))
        things = words(9, "t")
        for bonds in [[], ties_of(things)]:
            f, g = gathered(made, Party(things, bonds), "p3"), gathered(made, Party(things, bonds), "p1")
            self.assert_raises(TooGreat, {}, all_between, f, g)
            party = Party(things[:8], [(x, y) for x, y in bonds if "t8" not in (x, y)])
            f, g = gathered(made, party, "p3"), gathered(made, party, "p1")
            self.assertEqual(len(all_between(f, g)), 256)

    def test_few_stands_among_very_many_choices(self):
        """Three things have seventeen posts each between their two ones, but must stay near one that stays."""
        made, _ = layered_map([1, 14, 1])
        ties = [("a0", "z"), ("c0", "z"), ("b3", "z"), ("b4", "z")]
        more = Map(made.posts() + ["z"], made.ties() + ties)
        things = words(8, "t")
        party = Party(things, [("t7", thing) for thing in things[:7]])
        stay = ["a0", "a0", "z", "c0", "z"]
        f = Stand(more, party, ["a0"] * 3 + stay)
        g = Stand(more, party, ["c0"] * 3 + stay)
        wanted = [(*row, *stay) for row in itertools.product(["a0", "b3", "b4", "c0", "z"], repeat=3)]
        wanted = sorted(wanted, key=lambda row: sum({"a0": 0, "c0": 2}.get(x, 1) for x in row[:3]))
        self.assert_same([stand.posts() for stand in all_between(f, g)], wanted)


    def test_choices_that_are_right_bond_by_bond_and_not_together(self):
        square = (list("abcde"), [("a", "c"), ("a", "e"), ("b", "d"), ("b", "e"), ("c", "d")])
        six = (list("abcdef"), [("a", "d"), ("a", "f"), ("b", "e"), ("b", "f"), ("c", "e"), ("d", "e")])
        for (posts, ties), row, there in [(square, "dddc", "eeae"), (six, "ebee", "aafa")]:
            world = (posts, ties, list("uvwx"), ties_of("uvwx"))
            row, there = tuple(row), tuple(there)
            for one, other in [(row, there), (there, row)]:
                told = all_between(made_stand(world, one), made_stand(world, other))
                self.assert_same([stand.posts() for stand in told], between(world, one, other))

    def test_very_many_stands_are_not_gone_through(self):
        made, _ = layered_map([1, 14, 1])
        party = Party(words(8, "t"), [])
        self.assert_raises(TooGreat, {}, all_between, gathered(made, party, "a0"), gathered(made, party, "c0"))

    def test_a_thing_that_stays_leaves_few_choices(self):
        made, _ = layered_map([1, 14, 1])
        more = Map(made.posts() + ["z"], made.ties() + [("a0", "z"), ("c0", "z")])
        things = words(6, "t")
        party = Party(things, [(thing, "t5") for thing in things[:5]])
        f, g = Stand(more, party, ["a0"] * 5 + ["z"]), Stand(more, party, ["c0"] * 5 + ["z"])
        self.assertEqual(len(all_between(f, g)), 3 ** 5)
        self.assertEqual(all_between(f, g)[0], f)


class ErrorsTest(Case):
    def test_unlike_stands_of_bad_maps(self):
        f = made_stand(RING_WORLD, tuple("abcd"))
        maps, parties = unlike_stands(RING_WORLD, tuple("abcd"))
        for call in [first_steps, all_between, lambda *both: begins(*both, None), lambda *both: change_of(*both, None)]:
            for other in maps:
                self.assert_raises(UnlikeMaps, {}, call, f, other)
            for other in parties:
                self.assert_raises(UnlikeParties, {}, call, f, other)

    def test_unlike_maps_come_first_then_unlike_parties(self):
        f, g = kite()
        maps, parties = unlike_stands(KITE_WORLD, START)
        calls = [all_between, first_steps, lambda *both: change_of(*both, None), lambda *both: begins(*both, None),
                 lambda *both: nearest_stand(both[0], [f, both[1], f])]
        calls += [lambda one, other: is_between(one, other, one), lambda one, other: is_between(one, one, other),
                  lambda one, other: is_between(other, one, one)]
        for call in calls:
            for other in maps:
                self.assert_raises(UnlikeMaps, {}, call, f, other)
                self.assert_raises(UnlikeMaps, {}, call, other, f)
            for other in parties:
                self.assert_raises(UnlikeParties, {}, call, f, other)
        for other, last in itertools.product(parties, maps):
            self.assert_raises(UnlikeMaps, {}, is_between, f, other, last)
            self.assert_raises(UnlikeMaps, {}, is_between, f, last, other)
            self.assert_raises(UnlikeMaps, {}, nearest_stand, f, [other, last])
            self.assert_raises(UnlikeMaps, {}, nearest_stand, f, [f, g, other, last])

    def test_a_long_ring_comes_next(self):
        f = made_stand(RING_WORLD, tuple("abcd"))
        g = made_stand(RING_WORLD, tuple("bcda"))
        ring = long_ring_of(f.map())
        for step in [None, ("r", "b"), ("x", "y")]:
            self.assert_raises(NotGood, {"ring": ring}, begins, f, g, step)
            self.assert_raises(BadStep, {"number": 0}, change_of, f, g, step)
        self.assert_raises(NotGood, {"ring": ring}, first_steps, f, g)
        self.assertIs(is_between(f, g, g), True)
        self.assertIs(is_between(f, made_stand(RING_WORLD, tuple("cdab")), g), False)
        self.assertEqual(all_between(f, g), [f, g])
        self.assert_same(nearest_stand(f, [g, f]), 1)
        for made in BAD_MAPS:
            party = Party(["u", "v"], [])
            f, g = gathered(made, party, made.posts()[0]), gathered(made, party, made.posts()[-1])
            self.assert_raises(NotGood, {"ring": long_ring_of(made)}, first_steps, f, g)
            self.assert_raises(NotGood, {"ring": long_ring_of(made)}, begins, f, g, None)

    def test_a_thing_without_a_road(self):
        made = Map(list("abcd"), [("a", "b"), ("c", "d")])
        party = Party(["w", "v", "u"], [])
        f = Stand(made, party, ["a", "a", "c"])
        for row, thing in [(("b", "c", "a"), "v"), (("c", "b", "b"), "w"), (("b", "b", "b"), "u")]:
            g = Stand(made, party, row)
            for call in [first_steps, all_between]:
                self.assert_raises(NoRoad, {"thing": thing}, call, f, g)
            for step in [("w", "b"), ("u", "d"), None, ("w", "c")]:
                self.assert_raises(NoRoad, {"thing": thing}, change_of, f, g, step)
                self.assert_raises(NoRoad, {"thing": thing}, begins, f, g, step)
            for h in [f, g]:
                self.assert_raises(NoRoad, {"thing": thing}, is_between, f, h, g)
            self.assertIs(is_between(f, g, f), False)
            self.assertIs(nearest_stand(f, [g, g]), None)
            self.assert_same(nearest_stand(f, [g, Stand(made, party, ["b", "b", "d"]), g]), 1)

    def test_a_long_ring_comes_ahead_of_roads(self):
        made = joined_maps(ring_of_posts(4), Map(["x", "y"], []))
        party = Party(["u"], [])
        f, g = Stand(made, party, ["x"]), Stand(made, party, ["y"])
        self.assert_raises(NotGood, {"ring": long_ring_of(made)}, first_steps, f, g)
        self.assert_raises(NotGood, {"ring": long_ring_of(made)}, begins, f, g, None)
        self.assert_raises(NoRoad, {"thing": "u"}, change_of, f, g, None)
        self.assert_raises(NoRoad, {"thing": "u"}, all_between, f, g)

    def test_values_that_are_no_steps(self):
        f, g = kite()
        wrong = no_posts() + [["u", "b"], ("u",), ("u", "a"), ("u", "d"), ("v", "d"), ("b", "u"), ("u", "b", "c")]
        wrong += [(value, "b") for value in no_posts()] + [("u", value) for value in no_posts()]
        for value in wrong:
            for call in [change_of, begins]:
                if value not in all_steps(f):
                    self.assert_raises(BadStep, {"number": 0}, call, f, g, value)
