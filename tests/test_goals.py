"""Gaps, wasted steps and barred things: S10.5, S10.6, S6.1 and the interface, crossties/goals.py."""

import itertools
import random

from crossties.between import change_of
from crossties.errors import NoRoad, UnlikeMaps, UnlikeParties
from crossties.goals import barred_things, gaps_after, wasted
from crossties.maps import Map
from crossties.parties import Party
from crossties.scripts import stands_along
from crossties.stands import Stand, gathered
from crossties.ways import any_way, apart

from tests import plain
from tests.samples import (
    KITE_WORLD, RING_WORLD, Case, band, good_worlds, long_worlds, made_stand, random_worlds, some, unlike_stands, words)


def random_script(world, row, many, choose):
    script = []
    for _ in range(many):
        steps = plain.steps(world, row)
        if steps:
            script.append(choose.choice(steps))
            row = plain.after(world, row, script[-1])
    return script


def has_roads(world, row, there):
    far = plain.distances(world[0], world[1])
    return all((x, y) in far for x, y in zip(row, there))


class ExampleTest(Case):
    def test_a_step_aside_and_a_step_back(self):
        f, g = made_stand(KITE_WORLD, ("a", "b", "b")), made_stand(KITE_WORLD, ("d", "d", "c"))
        script = [("w", "d"), ("w", "c"), ("u", "b"), ("u", "a"), ("u", "c"), ("v", "d"), ("u", "d")]
        gaps = [4, 4, 3, 2, 3, 2, 1, 0]
        for k in range(len(script) + 1):
            self.assert_same(gaps_after(f, g, script[:k]), gaps[:k + 1])
            self.assert_same(gaps_after(f, g, tuple(script[:k])), gaps[:k + 1])
            self.assert_same(wasted(f, g, script[:k]), k - 4 + gaps[k])
        self.assert_same(wasted(f, g, script), 3)

    def test_barred_things(self):
        f, g = made_stand(KITE_WORLD, ("a", "b", "b")), made_stand(KITE_WORLD, ("c", "b", "d"))
        for things, wanted in [
                ([], []), (["u"], ["u"]), (["v"], []), (["w", "v", "u"], ["u", "w"]), (("w", "u", "w", "u"), ["u", "w"])]:
            self.assert_same(barred_things(f, g, things), wanted)


class SmallWorldsTest(Case):
    def test_gaps_and_waste(self):
        choose = random.Random(131)
        several = 0
        for world in [*random_worlds(120, 131), *good_worlds(40, 131), *long_worlds()[::3]]:
            stands = plain.stands(*world)
            far = plain.distances(world[0], world[1])
            for row, there in zip(some(stands, 3, 131), some(stands, 3, 132)):
                if not has_roads(world, row, there):
                    continue
                f, g = made_stand(world, row), made_stand(world, there)
                script = random_script(world, row, choose.randrange(9), choose)
                gaps = [sum(far[x, y] for x, y in zip(plain.leads(world, row, script[:k]), there))
                        for k in range(len(script) + 1)]
                several += len(set(gaps)) > 2
                self.assert_same(gaps_after(f, g, script), gaps)
                changes = [after - before for before, after in zip(gaps, gaps[1:])]
                self.assert_same(wasted(f, g, script), changes.count(0) + 2 * changes.count(1))
                stands_met = stands_along(f, script)
                self.assertEqual(gaps, [apart(stand, g) for stand in stands_met])
                self.assertEqual(changes, [change_of(stand, g, step) for stand, step in zip(stands_met, script)])
        self.assertGreater(several, 50)

    def test_barred_things(self):
        choose = random.Random(133)
        for world in random_worlds(80, 133, 5, 5):
            stands = plain.stands(*world)
            row, there = choose.choice(stands), choose.choice(stands)
            f, g = made_stand(world, row), made_stand(world, there)
            for many in range(len(world[2]) + 1):
                things = choose.sample(world[2], many)
                wanted = [u for u, x, y in zip(world[2], row, there) if u in things and x != y]
                self.assert_same(barred_things(f, g, things), wanted)
                self.assert_same(barred_things(f, g, tuple(things) * 2), wanted)


class LimitsTest(Case):
    def test_no_step(self):
        for made in [Map([], []), Map(["a"], [])]:
            f = Stand(made, Party([], []), ())
            for script in [[], ()]:
                self.assert_same(gaps_after(f, f, script), [0])
                self.assert_same(wasted(f, f, script), 0)
            self.assert_same(barred_things(f, f, []), [])

    def test_many_steps(self):
        made = band(16, 1, words(16))
        party = Party(words(4, "t"), [("t0", "t1"), ("t1", "t2")])
        f, g = gathered(made, party, "p0"), gathered(made, party, "p15")
        way = any_way(f, g)
        self.assert_same(gaps_after(f, g, way), list(range(60, -1, -1)))
        self.assert_same(wasted(f, g, way), 0)
        self.assert_same(wasted(f, f, way), 120)
        self.assert_same(gaps_after(f, f, way), list(range(61)))
        self.assert_same(barred_things(f, g, words(4, "t")[::-1]), words(4, "t"))
        aside = [("t3", "p1"), ("t3", "p0")] * 30
        self.assert_same(wasted(f, g, aside), 60)
        self.assert_same(gaps_after(f, g, aside), [60, 59] * 30 + [60])


class ErrorsTest(Case):
    def test_unlike_maps_come_first_then_unlike_parties(self):
        for world, row in [(KITE_WORLD, ("a", "b", "b")), (RING_WORLD, tuple("abcd"))]:
            f = made_stand(world, row)
            maps, parties = unlike_stands(world, row)
            for call in [gaps_after, wasted, barred_things]:
                for other in maps:
                    self.assert_raises(UnlikeMaps, {}, call, f, other, [])
                    self.assert_raises(UnlikeMaps, {}, call, other, f, [])
                for other in parties:
                    self.assert_raises(UnlikeParties, {}, call, f, other, [])
                    self.assert_raises(UnlikeParties, {}, call, other, f, [])

    def test_a_thing_without_a_road(self):
        made = Map(list("abcd"), [("a", "b"), ("c", "d")])
        party = Party(["w", "v", "u"], [])
        f = Stand(made, party, ["a", "a", "c"])
        for row, thing in [(("b", "c", "a"), "v"), (("c", "b", "b"), "w"), (("b", "b", "b"), "u")]:
            g = Stand(made, party, row)
            for call, script in itertools.product([gaps_after, wasted], [[], [("w", "b")], [("u", "d"), ("w", "b")]]):
                self.assert_raises(NoRoad, {"thing": thing}, call, f, g, script)
            self.assert_same(barred_things(f, g, ["u", "v", "w"]), [
                name for name, x, y in zip(["w", "v", "u"], "aac", row) if x != y])
