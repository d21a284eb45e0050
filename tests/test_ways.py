"""Ways: S6.1 to S6.5, S6.8, S8.1 and the interface, crossties/ways.py."""

import itertools
import random

from crossties.errors import BadLists, BadRoads, NoRoad, NotGood, UnlikeMaps, UnlikeParties
from crossties.lists import Lists
from crossties.longrings import long_ring_of
from crossties.maps import Map, joined_maps
from crossties.parties import Party
from crossties.plainwalks import cheapest_by_walks, fewest_by_walks
from crossties.roads import all_roads
from crossties.scripts import price
from crossties.stands import Stand, gathered
from crossties.ways import (
    any_roads, any_way, apart, at_goal, fewest_steps, judge_way, price_apart, way_by, way_within, wrong_road)

from tests import plain
from tests.samples import (
    BAD_MAPS, GOOD_MAPS, KITE_WORLD, ORDER_WORLD, RING_WORLD, Case, band, deep, good_worlds, levels_map, long_worlds,
    made_stand, no_lists, no_posts, random_worlds, ring_of_posts, some, ties_of, unlike_stands, words)

START = ("a", "b", "b")
END = ("d", "d", "c")


def kite():
    return made_stand(KITE_WORLD, START), made_stand(KITE_WORLD, END)


def far_apart(world, row, there):
    """How far two stands are apart, or the first thing without a road."""
    found = plain.distances(world[0], world[1])
    for thing, x, y in zip(world[2], row, there):
        if (x, y) not in found:
            return thing
    return sum(found[x, y] for x, y in zip(row, there))


def comes_through(world, row, script, thing):
    """The posts through which a thing comes."""
    k = world[2].index(thing)
    return (row[k], *[post for mover, post in script if mover == thing])


def road_choices(world, row, there):
    """All lists of roads of two stands."""
    return list(itertools.product(*[plain.roads(world[0], world[1], x, y) for x, y in zip(row, there)]))


class ExampleTest(Case):
    def test_distances(self):
        f, g = kite()
        self.assert_same(apart(f, g), 4)
        self.assert_same(fewest_steps(f, g), 4)
        self.assert_same(price_apart(f, g, [3, 10, 0]), 16)
        self.assert_same(at_goal(f, g), [])
        self.assert_same(at_goal(f, made_stand(KITE_WORLD, ("a", "c", "b"))), ["u", "w"])

    def test_both_roads_of_u(self):
        f, g = kite()
        for road in [("a", "b", "d"), ("a", "c", "d")]:
            roads = [road, ("b", "d"), ("b", "c")]
            self.assertIs(wrong_road(f, g, roads), None)
            way = way_by(f, g, roads)
            self.assertEqual(plain.leads(KITE_WORLD, START, way), END)
            self.assert_same([comes_through(KITE_WORLD, START, way, thing) for thing in "uvw"], roads)
            self.assertIs(judge_way(f, g, way), None)
        self.assertIs(wrong_road(f, g, any_roads(f, g)), None)
        self.assertIs(judge_way(f, g, any_way(f, g)), None)

    def test_what_is_judged(self):
        f, g = kite()
        way = [("u", "c"), ("v", "d"), ("w", "c"), ("u", "d")]
        self.assertIs(judge_way(f, g, way), None)
        self.assertIs(judge_way(f, g, tuple(way)), None)
        self.assert_same(judge_way(f, g, [("v", "d")] + way), ("step", 0))
        self.assert_same(judge_way(f, g, way[:3]), ("end",))
        self.assert_same(judge_way(f, g, []), ("end",))
        self.assert_same(judge_way(f, g, way + [("w", "d"), ("w", "c")]), ("steps", 2))
        self.assert_same(judge_way(f, g, [("u", "b"), *way]), ("steps", 1))
        self.assert_same(judge_way(f, g, way[:2] + [["w", "c"]] + way[3:]), ("step", 2))

    def test_ways_within_lists(self):
        f, g = kite()
        made = f.map()
        for lists, road in [
                ([["a", "c", "d"], ["b", "d"], ["b", "c"]], ("a", "c", "d")),
                ([["a", "b", "d"], list("abcd"), ["c", "b"]], ("a", "b", "d"))]:
            way = way_within(f, g, Lists(made, lists))
            self.assertEqual(plain.leads(KITE_WORLD, START, way), END)
            self.assertEqual(comes_through(KITE_WORLD, START, way, "u"), road)
        for lists, k in [
                ([["a", "d"], ["b", "d"], ["b", "c"]], 0), ([["a", "c", "d"], ["b", "d"], ["b", "a"]], 2),
                ([["a", "c", "d"], ["a", "d"], ["a", "d"]], 1), ([list("abcd"), ["d"], ["a", "d"]], 1)]:
            self.assert_raises(BadLists, {"path": (k,)}, way_within, f, g, Lists(made, lists))


class EmptyTest(Case):
    def test_no_things(self):
        for made in [Map([], []), levels_map()]:
            f = Stand(made, Party([], []), ())
            self.assert_same([apart(f, f), price_apart(f, f, []), fewest_steps(f, f)], [0, 0, 0])
            self.assert_same([at_goal(f, f), any_roads(f, f), any_way(f, f)], [[], [], []])
            self.assert_same([way_by(f, f, []), way_by(f, f, ()), way_within(f, f, Lists(made, []))], [[], [], []])
            self.assert_same([wrong_road(f, f, []), judge_way(f, f, ()), judge_way(f, f, [])], [None, None, None])
            self.assert_same(wrong_road(f, f, [("a",)]), ())
            self.assert_same(judge_way(f, f, [("u", "a")]), ("step", 0))
        f = Stand(ring_of_posts(4), Party([], []), ())
        self.assert_same([apart(f, f), price_apart(f, f, ())], [0, 0])
        self.assert_same([at_goal(f, f), any_roads(f, f), judge_way(f, f, [])], [[], [], None])
        for call in [fewest_steps, any_way, lambda *both: way_by(*both, []), lambda *both: way_by(*both, None)]:
            self.assert_raises(NotGood, {"ring": long_ring_of(f.map())}, call, f, f)

    def test_equal_stands(self):
        for world in good_worlds(30, 21):
            for row in some(plain.stands(*world), 3, 21):
                f = made_stand(world, row)
                g = made_stand(world, row)
                self.assert_same([apart(f, g), fewest_steps(f, g), any_way(f, g)], [0, 0, []])
                self.assert_same(at_goal(f, g), world[2])
                self.assert_same(any_roads(f, g), [(x,) for x in row])
                self.assert_same(way_by(f, g, [(x,) for x in row]), [])
                self.assert_same(way_within(f, g, Lists(f.map(), [[x] for x in row])), [])
                self.assertIs(judge_way(f, g, []), None)
                self.assert_same(price_apart(f, g, [5] * len(row)), 0)


class SmallWorldsTest(Case):
    def test_distances_whatever_the_map_is(self):
        choose = random.Random(22)
        for world in random_worlds(120, 22):
            stands = plain.stands(*world)
            for row, there in zip(some(stands, 4, 1), some(stands, 4, 2)):
                f, g = made_stand(world, row), made_stand(world, there)
                self.assert_same(at_goal(f, g), [u for u, x, y in zip(world[2], row, there) if x == y])
                far = far_apart(world, row, there)
                prices = [choose.choice([0, 1, 7, 10 ** 12]) for _ in row]
                calls = [apart, any_roads, lambda *both, prices=prices: price_apart(*both, prices)]
                if isinstance(far, str):
                    for call in calls:
                        self.assert_raises(NoRoad, {"thing": far}, call, f, g)
                    continue
                self.assert_same(apart(f, g), far)
                roads = any_roads(f, g)
                self.assertIn(tuple(roads), road_choices(world, row, there))
                wanted = sum((len(road) - 1) * cost for road, cost in zip(roads, prices))
                self.assert_same(price_apart(f, g, prices), wanted)
                self.assert_same(price_apart(f, g, tuple(prices)), wanted)

    def test_every_two_stands_of_good_maps(self):
        for world in good_worlds(60, 23):
            stands = plain.stands(*world)
            for row in some(stands, 4, 23):
                found = plain.walks(world, row)
                for there in some(stands, 12, 24):
                    f, g = made_stand(world, row), made_stand(world, there)
                    far = far_apart(world, row, there)
                    if isinstance(far, str):
                        for call in [fewest_steps, any_way]:
                            self.assert_raises(NoRoad, {"thing": far}, call, f, g)
                        self.assertNotIn(there, found)
                        continue
                    self.assertEqual(found[there], far)
                    self.assert_same(fewest_steps(f, g), far)
                    way = any_way(f, g)
                    self.assertIs(type(way), list)
                    self.assertEqual(len(way), far)
                    self.assertEqual(plain.leads(world, row, way), there)
                    self.assertIs(judge_way(f, g, way), None)

    def test_the_plain_walks_agree(self):
        choose = random.Random(25)
        for world in good_worlds(30, 25, 4, 3):
            stands = plain.stands(*world)
            row, there = choose.choice(stands), choose.choice(stands)
            f, g = made_stand(world, row), made_stand(world, there)
            prices = [choose.choice([0, 0, 1, 2, 1000]) for _ in row]
            if isinstance(far_apart(world, row, there), str):
                self.assertIs(fewest_by_walks(f, g, 12), None)
                self.assertIs(cheapest_by_walks(f, g, prices), None)
            else:
                self.assert_same(fewest_by_walks(f, g, 12), fewest_steps(f, g))
                self.assert_same(cheapest_by_walks(f, g, prices), price_apart(f, g, prices))
                self.assert_same(price(f.party(), prices, any_way(f, g)), price_apart(f, g, prices))


class InterleavedTest(Case):
    def test_all_choices_of_roads_on_small_maps(self):
        for world in good_worlds(200, 26):
            stands = plain.stands(*world)
            for row, there in zip(some(stands, 6, 26), some(stands, 6, 27)):
                if not isinstance(far_apart(world, row, there), str):
                    for roads in road_choices(world, row, there):
                        self.agree(world, row, there, roads)

    def test_maps_with_several_roads(self):
        several = 0
        for world in long_worlds():
            stands = plain.stands(*world)
            for row, there in zip(some(stands, 10, 28), some(stands, 10, 29)):
                choices = road_choices(world, row, there)
                several += len(choices) > 1
                for roads in some(choices, 12, several):
                    self.agree(world, row, there, roads)
        self.assertGreater(several, 60)

    def agree(self, world, row, there, roads):
        f, g = made_stand(world, row), made_stand(world, there)
        self.assertIs(wrong_road(f, g, roads), None)
        for value in [roads, list(roads)]:
            way = way_by(f, g, value)
            self.assertIs(type(way), list)
            self.assertEqual(plain.leads(world, row, way), there)
            self.assertEqual(tuple(comes_through(world, row, way, thing) for thing in world[2]), roads)

    def test_greater_maps(self):
        choose = random.Random(27)
        for made in GOOD_MAPS:
            things = words(16, "t")
            for share in [0.1, 0.5]:
                bonds = [bond for bond in ties_of(things) if choose.random() < share]
                world = (made.posts(), made.ties(), things, bonds)
                party = Party(things, bonds)
                rows = [self.walked_about(world, (choose.choice(made.posts()),) * 16, choose) for _ in range(2)]
                f, g = [Stand(made, party, row) for row in rows]
                if isinstance(far_apart(world, *rows), str):
                    self.assert_raises(NoRoad, {"thing": far_apart(world, *rows)}, any_way, f, g)
                    continue
                roads = [choose.choice(all_roads(made, x, y)) for x, y in zip(*rows)]
                for way in [way_by(f, g, roads), any_way(f, g)]:
                    self.assertIs(judge_way(f, g, way), None)
                    self.assertEqual(len(way), far_apart(world, *rows))

    def walked_about(self, world, row, choose):
        for _ in range(12):
            k = choose.randrange(len(row))
            moved = [row[:k] + (x,) + row[k + 1:] for x in world[0]]
            row = choose.choice([there for there in moved if plain.loose(*world, there) == []])
        return row

    def test_sixteen_things_all_bonded(self):
        for made in [band(16, 1, words(16)), band(16, 4, words(16))]:
            things = words(16, "t")
            party = Party(things, ties_of(things))
            for x, y in [("p0", "p4"), ("p9", "p5"), ("p3", "p15")]:
                f, g = gathered(made, party, x), gathered(made, party, y)
                way = any_way(f, g)
                self.assertIs(judge_way(f, g, way), None)
                self.assertEqual(len(way), apart(f, g))


class WithinTest(Case):
    def test_lists_that_are_open_or_not(self):
        choose = random.Random(28)
        done = 0
        for world in good_worlds(250, 28):
            stands = plain.stands(*world)
            if not world[2] or not stands:
                continue
            row, there = choose.choice(stands), choose.choice(stands)
            rows = [choose.choice(plain.choices(world[0])) for _ in row]
            rows = [sorted({*lot, x, y}) if choose.random() < 0.9 else lot for lot, x, y in zip(rows, row, there)]
            f, g = made_stand(world, row), made_stand(world, there)
            lists = Lists(f.map(), rows)
            far = far_apart(world, row, there)
            wrong = [k for k, lot in enumerate(rows)
                     if row[k] not in lot or there[k] not in lot or not plain.is_open(world[0], world[1], lot)]
            if isinstance(far, str):
                self.assert_raises(NoRoad, {"thing": far}, way_within, f, g, lists)
            elif wrong:
                self.assert_raises(BadLists, {"path": (wrong[0],)}, way_within, f, g, lists)
            else:
                done += 1
                way = way_within(f, g, lists)
                self.assertEqual(len(way), far)
                self.assertEqual(plain.leads(world, row, way), there)
                for thing, post in way:
                    self.assertIn(post, rows[world[2].index(thing)])
        self.assertGreater(done, 60)

    def test_the_errors_in_their_order(self):
        f, g = kite()
        made = f.map()
        apart_map = Map(list("abcd"), [("a", "b")])
        other = Lists(apart_map, [["a", "d"]])
        few = Lists(made, [["a", "d"]])
        maps, parties = unlike_stands(KITE_WORLD, START)
        for lists in [few, other, Lists(made, [list("abcd")] * 3)]:
            for h in maps:
                self.assert_raises(UnlikeMaps, {}, way_within, f, h, lists)
            for h in parties:
                kind = UnlikeMaps if lists is other else UnlikeParties
                self.assert_raises(kind, {}, way_within, f, h, lists)
        self.assert_raises(UnlikeMaps, {}, way_within, f, g, Lists(apart_map, [["a", "d"]] * 3))
        for many in [0, 1, 2, 4]:
            self.assert_raises(UnlikeParties, {}, way_within, f, g, Lists(made, [list("abcd")] * many))

    def test_a_long_ring_comes_ahead_of_roads_and_lists(self):
        made = joined_maps(ring_of_posts(5), Map(["x", "y"], []))
        party = Party(["u"], [])
        f, g = Stand(made, party, ["x"]), Stand(made, party, ["y"])
        for lists in [[["p0", "p2"]], [["x", "y"]]]:
            self.assert_raises(NotGood, {"ring": long_ring_of(made)}, way_within, f, g, Lists(made, lists))
        self.assert_raises(UnlikeParties, {}, way_within, f, g, Lists(made, []))
        good = Map(["x", "y", "z"], [])
        f, g = Stand(good, party, ["x"]), Stand(good, party, ["y"])
        for lists in [[["z"]], [["x", "y"]]]:
            self.assert_raises(NoRoad, {"thing": "u"}, way_within, f, g, Lists(good, lists))


class BadMapTest(Case):
    def test_maps_that_are_not_good(self):
        f = made_stand(RING_WORLD, tuple("abcd"))
        g = made_stand(RING_WORLD, tuple("bcda"))
        ring = long_ring_of(f.map())
        roads = [("a", "b"), ("b", "c"), ("c", "d"), ("d", "a")]
        self.assert_same([apart(f, g), price_apart(f, g, [1, 2, 3, 4])], [4, 10])
        self.assert_same([at_goal(f, g), any_roads(f, g), wrong_road(f, g, roads)], [[], roads, None])
        for call in [fewest_steps, any_way, lambda *both: way_by(*both, roads), lambda *both: way_by(*both, [])]:
            self.assert_raises(NotGood, {"ring": ring}, call, f, g)
            self.assert_raises(NotGood, {"ring": ring}, call, f, f)
        self.assert_raises(NotGood, {"ring": ring}, way_within, f, g, Lists(f.map(), [list("abcd")] * 4))
        self.assert_same(judge_way(f, g, [("r", "b"), ("s", "c"), ("t", "d"), ("u", "a")]), ("step", 0))
        self.assert_same(judge_way(f, g, []), ("end",))
        self.assertIs(judge_way(f, f, []), None)

    def test_the_ring_that_is_told(self):
        for made in BAD_MAPS:
            party = Party(["u", "v"], [("u", "v")])
            f, g = gathered(made, party, made.posts()[0]), gathered(made, party, made.posts()[-1])
            for call in [fewest_steps, any_way]:
                self.assert_raises(NotGood, {"ring": long_ring_of(made)}, call, f, g)

    def test_things_in_other_pieces_than_the_ring(self):
        made = joined_maps(Map(["x", "y", "z"], [("x", "y")]), ring_of_posts(4))
        party = Party(["u", "v"], [])
        f = Stand(made, party, ["x", "y"])
        for row in [("y", "x"), ("z", "x"), ("x", "y")]:
            g = Stand(made, party, row)
            for call in [fewest_steps, any_way, lambda *both: way_by(*both, None)]:
                self.assert_raises(NotGood, {"ring": long_ring_of(made)}, call, f, g)
        self.assert_same(apart(f, Stand(made, party, ["y", "x"])), 2)
        self.assert_raises(NoRoad, {"thing": "u"}, apart, f, Stand(made, party, ["z", "z"]))

    def test_ways_on_a_bad_map_are_judged(self):
        made = ring_of_posts(6)
        party = Party(["u", "v"], [])
        f, g = Stand(made, party, ["p0", "p3"]), Stand(made, party, ["p2", "p3"])
        self.assertIs(judge_way(f, g, [("u", "p1"), ("u", "p2")]), None)
        self.assert_same(judge_way(f, g, [("u", "p5"), ("u", "p4"), ("u", "p3"), ("u", "p2")]), ("steps", 2))


class NoRoadTest(Case):
    def test_the_first_thing_whatever_its_price_is(self):
        made = Map(list("abcd"), [("a", "b"), ("c", "d")])
        party = Party(["w", "v", "u"], [])
        f = Stand(made, party, ["a", "a", "c"])
        for row, thing in [(("b", "c", "a"), "v"), (("c", "b", "b"), "w"), (("b", "b", "b"), "u"), (("d", "d", "b"), "w")]:
            g = Stand(made, party, row)
            calls = [apart, fewest_steps, any_roads, any_way, lambda *both: price_apart(*both, [0, 0, 0]),
                     lambda *both: way_by(*both, None), lambda *both: way_by(*both, [("a",)])]
            for call in calls:
                self.assert_raises(NoRoad, {"thing": thing}, call, f, g)
            k = party.number(thing)
            roads = [("a", "b"), ("a", "b"), ("c", "d")]
            self.assert_same(wrong_road(f, g, roads), (k,))
            self.assert_same(judge_way(f, g, []), ("end",))
            self.assert_same(judge_way(f, g, [("w", "b")]), ("end",))
            self.assert_same(judge_way(f, g, [("w", "c")]), ("step", 0))
            self.assert_same(judge_way(f, g, None), ("form",))


class UnlikeTest(Case):
    def test_unlike_maps_come_first_then_unlike_parties(self):
        f, _ = kite()
        maps, parties = unlike_stands(KITE_WORLD, START)
        calls = [
            apart, at_goal, fewest_steps, any_roads, any_way, lambda *both: price_apart(*both, [1, 1, 1]),
            lambda *both: way_by(*both, None), lambda *both: wrong_road(*both, None),
            lambda *both: judge_way(*both, None)]
        for call in calls:
            for other in maps:
                self.assert_raises(UnlikeMaps, {}, call, f, other)
                self.assert_raises(UnlikeMaps, {}, call, other, f)
            for other in parties:
                self.assert_raises(UnlikeParties, {}, call, f, other)
                self.assert_raises(UnlikeParties, {}, call, other, f)

    def test_unlike_stands_of_bad_maps(self):
        f = made_stand(RING_WORLD, tuple("abcd"))
        maps, parties = unlike_stands(RING_WORLD, tuple("abcd"))
        lists = Lists(f.map(), [list("abcd")])
        for call in [fewest_steps, any_way, lambda *both: way_by(*both, None), lambda *both: way_within(*both, lists)]:
            for other in maps:
                self.assert_raises(UnlikeMaps, {}, call, f, other)
            for other in parties:
                self.assert_raises(UnlikeParties, {}, call, f, other)


class WrongRoadsTest(Case):
    def setUp(self):
        self.f, self.g = kite()
        self.roads = [("a", "c", "d"), ("b", "d"), ("b", "c")]

    def wrong(self, value, path):
        self.assert_same(wrong_road(self.f, self.g, value), path)
        self.assert_raises(BadRoads, {"path": path}, way_by, self.f, self.g, value)

    def test_no_list_of_as_many_members(self):
        for value in no_lists() + ["abc", [], (), self.roads[:2], self.roads + [("b",)], [self.roads], (*self.roads, 1)]:
            self.wrong(value, ())

    def test_members_that_are_no_roads(self):
        wrong = no_posts() + [("a",), ("d",), ("d", "b"), ["a", "c", "d"], ["b", "d"], ("b", "c", "d"), ("a", "b")]
        for k in range(3):
            for value in wrong:
                self.wrong(self.roads[:k] + [value] + self.roads[k + 1:], (k,))
                self.wrong(tuple(self.roads[:k]) + (value,) * (3 - k), (k,))

    def test_roads_with_other_ends(self):
        for k, road in [(0, ("d", "c", "a")), (0, ("a", "b", "c")), (0, ("a", "c")), (1, ("d", "b")), (1, ("b",)),
                        (1, ("b", "c")), (2, ("c", "b")), (2, ("b", "a", "c")), (2, ("b", "d")), (2, ("c",))]:
            self.wrong(self.roads[:k] + [road] + self.roads[k + 1:], (k,))

    def test_roads_of_things_at_their_goals(self):
        f = made_stand(ORDER_WORLD, ("a", "b", "d"))
        g = made_stand(ORDER_WORLD, ("b", "b", "d"))
        self.assert_same(way_by(f, g, [("a", "b"), ("b",), ("d",)]), [("x", "b")])
        for roads, k in [([("a", "b"), ("b", "c", "b"), ("d",)], 1), ([("a", "b"), ("b",), ("d", "d")], 2),
                         ([("a", "b"), ("b",), ()], 2), ([("a", "b"), "b", ("d",)], 1)]:
            self.assert_same(wrong_road(f, g, roads), (k,))


class JudgedTest(Case):
    def test_values_of_all_kinds(self):
        f, g = kite()
        way = any_way(f, g)
        for value in no_lists() + ["abc", {"u": "b"}]:
            self.assert_same(judge_way(f, g, value), ("form",))
        for value in no_posts() + [["u", "c"], ("u", "c", "d"), deep(("u", "b"))]:
            for k in range(5):
                self.assert_same(judge_way(f, g, way[:k] + [value] + way[k:]), ("step", k))
                self.assert_same(judge_way(f, g, (*way[:k], value, value)), ("step", k))

    def test_every_script_of_small_worlds(self):
        for world in random_worlds(12, 29, 4, 2):
            pairs = [(thing, post) for thing in world[2] for post in world[0]]
            stands = some(plain.stands(*world), 3, 29)
            for row, there in itertools.product(stands, repeat=2):
                f, g = made_stand(world, row), made_stand(world, there)
                for many in range(3):
                    for script in itertools.product(pairs, repeat=many):
                        self.agree(world, f, g, script)

    def agree(self, world, f, g, script):
        ends = [plain.leads(world, f.posts(), script[:k]) for k in range(len(script) + 1)]
        wanted = None
        if None in ends:
            wanted = ("step", ends.index(None) - 1)
        elif ends[-1] != g.posts():
            wanted = ("end",)
        elif len(script) != far_apart(world, f.posts(), g.posts()):
            wanted = ("steps", len(script) - far_apart(world, f.posts(), g.posts()))
        self.assert_same(judge_way(f, g, list(script)), wanted)

    def test_sixty_steps_and_a_wrong_member_anywhere(self):
        made = band(16, 1, words(16))
        party = Party(words(4, "t"), ties_of(words(4, "t")))
        f, g = gathered(made, party, "p0"), gathered(made, party, "p15")
        way = any_way(f, g)
        self.assertEqual(len(way), 60)
        self.assertIs(judge_way(f, g, way), None)
        self.assert_same(price(party, [10 ** 12, 0, 1, 2], way), price_apart(f, g, [10 ** 12, 0, 1, 2]))
        for k in range(60):
            self.assert_same(judge_way(f, g, way[:k] + [("t0", "zz")] + way[k + 1:]), ("step", k))
            self.assert_same(judge_way(f, g, way[:k]), ("end",))
