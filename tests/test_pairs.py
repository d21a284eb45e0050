"""Orders of steps: S7.1 to S7.4, S7.7, S7.8 and the interface, crossties/pairs.py."""

import itertools
import random

from crossties.errors import (
    BadOrder, BadRoads, BadStep, NotGood, UnknownName, UnlikeMaps, UnlikeParties)
from crossties.longrings import long_ring_of
from crossties.maps import Map, joined_maps
from crossties.pairs import (
    any_order, judge_order, low_high, order_script, pairs_of, steps_ahead, which_ahead)
from crossties.parties import Party
from crossties.roads import all_roads
from crossties.stands import Stand, gathered
from crossties.ways import any_roads, judge_way

from tests import plain
from tests.samples import (
    BAD_MAPS, GOOD_MAPS, KITE_WORLD, ORDER_WORLD, RING_WORLD, Case, band, good_worlds, long_worlds, made_stand, no_lists,
    no_posts, road_tasks, some, ties_of, unlike_stands, words)

START = ("a", "b", "d")
END = ("c", "d", "c")
ROADS = [("a", "b", "c"), ("b", "c", "d"), ("d", "c")]
PAIRS = [(("x", 1), ("x", 2)), (("x", 1), ("y", 1)), (("x", 2), ("y", 2)), (("y", 1), ("y", 2))]
STEPS = [("x", 1), ("x", 2), ("y", 1), ("y", 2), ("z", 1)]


def sample():
    return made_stand(ORDER_WORLD, START), made_stand(ORDER_WORLD, END), ROADS


def low_and_high(world, road, number, other_road):
    near = plain.near_pairs(world[0], world[1])
    places = [i for i, x in enumerate(other_road) if (x, road[number - 1]) in near and (x, road[number]) in near]
    assert places == list(range(places[0], places[-1] + 1))
    return places[0], places[-1]


def plain_pairs(world, roads):
    """The pairs by the words of S7.3, in order."""
    things, bonds = world[2], world[3]
    found = set()
    for v, road in zip(things, roads):
        found |= {((v, j), (v, j + 1)) for j in range(1, len(road) - 1)}
        for u, other_road in zip(things, roads):
            if (u, v) in bonds or (v, u) in bonds:
                for j in range(1, len(road)):
                    low, high = low_and_high(world, road, j, other_road)
                    found |= {((u, low), (v, j))} if low > 0 else set()
                    found |= {((v, j), (u, high + 1))} if high + 1 < len(other_road) else set()
    return sorted(found, key=lambda pair: [(things.index(u), j) for u, j in pair])


class ExampleTest(Case):
    def test_low_and_high(self):
        self.assert_same(low_high(*sample(), "y", 1, "x"), (1, 2))
        self.assert_same(low_high(*sample(), "y", 2, "x"), (2, 2))
        self.assert_same(low_high(*sample(), "x", 1, "y"), (0, 0))
        self.assert_same(low_high(*sample(), "x", 2, "y"), (0, 1))

    def test_the_pairs(self):
        self.assert_same(pairs_of(*sample()), PAIRS)

    def test_the_doable_orders(self):
        orders = [order for order in itertools.permutations("xxyyz") if judge_order(*sample(), order) is None]
        self.assertEqual(len(set(orders)), 10)
        ordered = sorted(set(orders))
        self.assertEqual((ordered[0], ordered[-1]), (tuple("xxyyz"), tuple("zxyxy")))
        self.assertIn(any_order(*sample()), ordered)
        self.assert_same(judge_order(*sample(), tuple("yxxyz")), ("pair", PAIRS[1]))
        self.assert_same(judge_order(*sample(), list("yxxyz")), ("pair", PAIRS[1]))
        self.assert_same(judge_order(*sample(), tuple("xyyxz")), ("pair", PAIRS[2]))
        self.assert_same(order_script(*sample(), tuple("xyxzy")), [
            ("x", "b"), ("y", "c"), ("x", "c"), ("z", "c"), ("y", "d")])

    def test_what_is_ahead(self):
        self.assert_same(which_ahead(*sample(), ("y", 1), ("x", 2)), "open")
        self.assert_same(which_ahead(*sample(), ("x", 1), ("y", 2)), "first")
        self.assert_same(which_ahead(*sample(), ("y", 2), ("x", 1)), "second")
        self.assert_same(which_ahead(*sample(), ("z", 1), ("x", 1)), "open")
        self.assert_same(which_ahead(*sample(), ("z", 1), ("z", 1)), "same")
        self.assert_same(steps_ahead(*sample(), ("y", 2)), [("x", 1), ("x", 2), ("y", 1)])
        self.assert_same(steps_ahead(*sample(), ("y", 1)), [("x", 1)])
        self.assert_same(steps_ahead(*sample(), ("z", 1)), [])

    def test_what_is_judged_first(self):
        for value, wanted in [
                ((), ("short", "x")), ([], ("short", "x")), (tuple("xx"), ("short", "y")), (tuple("xxyy"), ("short", "z")),
                (tuple("xxx"), ("thing", 2)), (tuple("yyxq"), ("thing", 3)), (tuple("zz"), ("thing", 1)),
                (tuple("yyxxzz"), ("thing", 5)), (("x", ["x"], "y"), ("thing", 1)), (tuple("zyyx"), ("short", "x")),
                (None, ("form",)), ("xxyyz", ("form",))]:
            self.assert_same(judge_order(*sample(), value), wanted)

    def test_orders_that_cannot_go_on(self):
        for value, number in [
                (tuple("yxxyz"), 0), (tuple("xyyxz"), 2), (list("xxyy"), 4), ([], 0), ((), 0), (tuple("xxyyzz"), 5),
                (tuple("xxx"), 2), (("x", None), 1), (("x", ["x"]), 1), (tuple("zz"), 1), (tuple("xxyya"), 4)]:
            self.assert_raises(BadOrder, {"number": number}, order_script, *sample(), value)


class EmptyTest(Case):
    def test_no_things(self):
        for made in [Map([], []), Map(["a", "b"], [("a", "b")])]:
            f = Stand(made, Party([], []), ())
            for roads in [[], ()]:
                self.assert_same(pairs_of(f, f, roads), [])
                self.assert_same(any_order(f, f, roads), ())
                for value in [(), []]:
                    self.assertIs(judge_order(f, f, roads, value), None)
                    self.assert_same(order_script(f, f, roads, value), [])
                self.assert_same(judge_order(f, f, roads, ["x"]), ("thing", 0))
                self.assert_raises(BadOrder, {"number": 0}, order_script, f, f, roads, ["x"])
                self.assert_raises(UnknownName, {"name": "x"}, low_high, f, f, roads, "x", 1, "y")
                self.assert_raises(UnknownName, {"name": ("x", 1)}, steps_ahead, f, f, roads, ("x", 1))

    def test_equal_stands(self):
        for world in good_worlds(30, 51):
            for row in some(plain.stands(*world), 3, 51):
                f, g = made_stand(world, row), made_stand(world, row)
                roads = [(x,) for x in row]
                self.assert_same(pairs_of(f, g, roads), [])
                self.assert_same(any_order(f, g, roads), ())
                self.assertIs(judge_order(f, g, roads, []), None)
                self.assert_same(order_script(f, g, roads, []), [])
                for thing in world[2]:
                    self.assert_same(judge_order(f, g, roads, [thing]), ("thing", 0))
                    self.assert_raises(BadOrder, {"number": 0}, order_script, f, g, roads, [thing])
                    for number in [0, 1]:
                        self.assert_raises(UnknownName, {"name": (thing, number)}, steps_ahead, f, g, roads, (thing, number))


class SmallWorldsTest(Case):
    def test_pairs_and_what_can_be_done(self):
        bonded = 0
        for world, row, there, roads in road_tasks(good_worlds(60, 52) + long_worlds(), 52, 12):
            f, g = made_stand(world, row), made_stand(world, there)
            pairs = plain_pairs(world, roads)
            bonded += len(pairs) > 3
            self.assert_same(pairs_of(f, g, roads), pairs)
            self.assert_same(pairs_of(f, g, tuple(roads)), pairs)
            for (v, road), (u, other_road) in itertools.permutations(list(zip(world[2], roads)), 2):
                if (u, v) in world[3] or (v, u) in world[3]:
                    for j in range(1, len(road)):
                        wanted = low_and_high(world, road, j, other_road)
                        self.assert_same(low_high(f, g, roads, v, j, u), wanted)
        self.assertGreater(bonded, 50)

    def test_every_order(self):
        for world, row, there, roads in road_tasks(good_worlds(40, 53) + long_worlds(), 53, 6):
            f, g = made_stand(world, row), made_stand(world, there)
            by_thing = dict(zip(world[2], roads))
            doable = plain.doable_orders(world, row, roads)
            pairs = plain_pairs(world, roads)
            self.assertIn(any_order(f, g, roads), doable)
            for order in plain.orders(by_thing):
                script = plain.order_script(by_thing, order)
                turns = plain.turns(order)
                broken = [pair for pair in pairs if turns[pair[0]] > turns[pair[1]]]
                self.assertEqual(broken == [], order in doable)
                if order in doable:
                    self.assertIs(judge_order(f, g, roads, list(order)), None)
                    self.assert_same(order_script(f, g, roads, order), script)
                    self.assert_same(order_script(f, g, roads, list(order)), script)
                else:
                    self.assert_same(judge_order(f, g, roads, order), ("pair", broken[0]))
                    number = [plain.leads(world, row, script[:k + 1]) for k in range(len(script))].index(None)
                    self.assert_raises(BadOrder, {"number": number}, order_script, f, g, roads, order)

    def test_what_is_always_ahead(self):
        for world, row, there, roads in road_tasks(good_worlds(40, 54) + long_worlds(), 54, 6):
            f, g = made_stand(world, row), made_stand(world, there)
            turns = [plain.turns(order) for order in plain.doable_orders(world, row, roads)]
            steps = [(thing, j) for thing, road in zip(world[2], roads) for j in range(1, len(road))]
            for step in steps:
                ahead = [other for other in steps if other != step and all(turn[other] < turn[step] for turn in turns)]
                self.assert_same(steps_ahead(f, g, roads, step), ahead)
                for other in steps:
                    wanted = "second" if other in ahead else "open"
                    if step == other:
                        wanted = "same"
                    elif all(turn[step] < turn[other] for turn in turns):
                        wanted = "first"
                    self.assert_same(which_ahead(f, g, roads, step, other), wanted)


class SixtyStepsTest(Case):
    def setUp(self):
        things = words(4, "t")
        made = band(16, 1, words(16))
        party = Party(things, list(zip(things, things[1:])))
        self.f, self.g = gathered(made, party, "p0"), gathered(made, party, "p15")
        self.roads = [tuple(words(16))] * 4

    def test_sixty_steps(self):
        order = any_order(self.f, self.g, self.roads)
        self.assertEqual(len(order), 60)
        self.assertIs(judge_order(self.f, self.g, self.roads, order), None)
        script = order_script(self.f, self.g, self.roads, order)
        self.assertIs(judge_way(self.f, self.g, script), None)
        self.assertEqual([thing for thing, _ in script], list(order))
        self.assertEqual(len(pairs_of(self.f, self.g, self.roads)), 4 * 14 + 6 * 14)
        ahead = steps_ahead(self.f, self.g, self.roads, ("t3", 15))
        self.assert_same(ahead, [("t0", j) for j in range(1, 13)] + [("t1", j) for j in range(1, 14)] + [
            ("t2", j) for j in range(1, 15)] + [("t3", j) for j in range(1, 15)])
        self.assert_same(which_ahead(self.f, self.g, self.roads, ("t0", 4), ("t3", 7)), "first")
        self.assert_same(which_ahead(self.f, self.g, self.roads, ("t0", 5), ("t3", 7)), "open")

    def test_a_wrong_member_anywhere(self):
        order = any_order(self.f, self.g, self.roads)
        for k in range(60):
            for value in ["t4", None, ["t0"]]:
                changed = order[:k] + (value,) + order[k + 1:]
                self.assert_same(judge_order(self.f, self.g, self.roads, changed), ("thing", k))
            self.assert_raises(BadOrder, {"number": k}, order_script, self.f, self.g, self.roads, changed)
            self.assert_raises(BadOrder, {"number": k}, order_script, self.f, self.g, self.roads, order[:k])

    def test_greater_maps(self):
        choose = random.Random(55)
        for made in GOOD_MAPS[::2]:
            things = words(8, "t")
            party = Party(things, [bond for bond in ties_of(things) if choose.random() < 0.5])
            f = gathered(made, party, made.posts()[0])
            near = [post for post in made.posts() if all_roads(made, made.posts()[0], post)]
            g = gathered(made, party, choose.choice(near))
            roads = [choose.choice(all_roads(made, x, y)) for x, y in zip(f.posts(), g.posts())]
            order = any_order(f, g, roads)
            self.assertIs(judge_order(f, g, roads, order), None)
            self.assertIs(judge_way(f, g, order_script(f, g, roads, order)), None)


CALLS = [
    pairs_of, any_order, lambda f, g, roads: judge_order(f, g, roads, None),
    lambda f, g, roads: low_high(f, g, roads, None, None, None), lambda f, g, roads: order_script(f, g, roads, [None]),
    lambda f, g, roads: steps_ahead(f, g, roads, None), lambda f, g, roads: which_ahead(f, g, roads, None, None)]


class ErrorsTest(Case):
    def test_unlike_maps_come_first_then_unlike_parties(self):
        f, _, roads = sample()
        maps, parties = unlike_stands(ORDER_WORLD, START)
        for call, value in itertools.product(CALLS, [roads, None, []]):
            for other in maps:
                self.assert_raises(UnlikeMaps, {}, call, f, other, value)
                self.assert_raises(UnlikeMaps, {}, call, other, f, value)
            for other in parties:
                self.assert_raises(UnlikeParties, {}, call, f, other, value)
                self.assert_raises(UnlikeParties, {}, call, other, f, value)

    def test_unlike_stands_of_bad_maps(self):
        f = made_stand(RING_WORLD, tuple("abcd"))
        maps, parties = unlike_stands(RING_WORLD, tuple("abcd"))
        for call in CALLS:
            for other in maps:
                self.assert_raises(UnlikeMaps, {}, call, f, other, None)
            for other in parties:
                self.assert_raises(UnlikeParties, {}, call, f, other, None)

    def test_a_long_ring_comes_next(self):
        f = made_stand(RING_WORLD, tuple("abcd"))
        g = made_stand(RING_WORLD, tuple("bcda"))
        for call, value in itertools.product(CALLS, [any_roads(f, g), None, []]):
            self.assert_raises(NotGood, {"ring": long_ring_of(f.map())}, call, f, g, value)
        for made in BAD_MAPS + [joined_maps(Map(["x", "y"], []), BAD_MAPS[0])]:
            party = Party(["u"], [])
            f, g = gathered(made, party, made.posts()[0]), gathered(made, party, made.posts()[1])
            for call in CALLS:
                self.assert_raises(NotGood, {"ring": long_ring_of(made)}, call, f, g, None)

    def test_no_roads_at_all(self):
        f, g, _ = sample()
        for call in CALLS:
            for value in no_lists() + [[], (), ROADS[:2], ROADS + [("a",)], (*ROADS, 1), [ROADS]]:
                self.assert_raises(BadRoads, {"path": ()}, call, f, g, value)

    def test_the_first_wrong_road(self):
        f, g, _ = sample()
        wrong = no_posts() + [["a", "b", "c"], ("a", "b"), ("c", "b", "a"), ("a", "c"), ("d",), ("b", "c", "d", "c")]
        for call in CALLS:
            for k in range(3):
                for value in wrong:
                    self.assert_raises(BadRoads, {"path": (k,)}, call, f, g, ROADS[:k] + [value] + ROADS[k + 1:])
                    self.assert_raises(BadRoads, {"path": (k,)}, call, f, g, (*ROADS[:k], *[value] * (3 - k)))

    def test_things_in_two_pieces_have_no_road(self):
        made = Map(list("abcd"), [("a", "b"), ("c", "d")])
        party = Party(["w", "v"], [])
        f, g = Stand(made, party, ["a", "a"]), Stand(made, party, ["b", "c"])
        for call in CALLS:
            for value in [[("a", "b"), ("a", "c")], [("a", "b"), ("a",)], [("a", "b"), None]]:
                self.assert_raises(BadRoads, {"path": (1,)}, call, f, g, value)

    def test_things_and_numbers(self):
        for value in no_posts() + ["a", "xx", ("x",)]:
            self.assert_raises(UnknownName, {"name": value}, low_high, *sample(), value, None, "w")
            self.assert_raises(UnknownName, {"name": value}, low_high, *sample(), "y", 0, value)
            self.assert_raises(UnknownName, {"name": "w"}, low_high, *sample(), "w", 0, value)
        for thing, other in [("x", "z"), ("z", "x"), ("x", "x"), ("z", "z"), ("y", "z")]:
            for number in [1, 0, None]:
                self.assert_raises(UnknownName, {"name": other}, low_high, *sample(), thing, number, other)
        for value in no_posts() + ["a", 3, -2, 10 ** 39, (1,), ("y", 1)]:
            if value == 1 and not isinstance(value, bool):
                continue
            self.assert_raises(BadStep, {"number": value}, low_high, *sample(), "y", value, "x")

    def test_steps_of_the_roads(self):
        wrong = no_posts() + [
            ("x", 0), ("x", 3), ("x", -1), ("z", 2), ("x", True), ("x", None), ["x", 1], ("x",), ("x", 1, 1), (1, "x"),
            ("w", 1), (["x"], 1), ("x", [1]), ("x", "b"), (("x", 1),), "x", 1, ("x", 10 ** 39), ("x", False)]
        for value in wrong:
            self.assert_raises(UnknownName, {"name": value}, steps_ahead, *sample(), value)
            self.assert_raises(UnknownName, {"name": value}, which_ahead, *sample(), value, ("x", 1))
            self.assert_raises(UnknownName, {"name": value}, which_ahead, *sample(), ("x", 1), value)
            self.assert_raises(UnknownName, {"name": value}, which_ahead, *sample(), value, ("x", 0))
            self.assert_raises(UnknownName, {"name": ("x", 0)}, which_ahead, *sample(), ("x", 0), value)
        for step in STEPS:
            self.assert_same(which_ahead(*sample(), step, step), "same")

    def test_values_that_are_no_orders(self):
        right = tuple("xxyyz")
        for value in no_lists() + ["a", {"x": 1}, "xxyyz"]:
            self.assert_same(judge_order(*sample(), value), ("form",))
        for k, value in itertools.product(range(5), no_posts() + ["a", "w", ("x",), ("x", 1), ["x"]]):
            changed = right[:k] + (value,) + right[k + 1:]
            self.assert_same(judge_order(*sample(), changed), ("thing", k))
            self.assert_same(judge_order(*sample(), list(changed[:k + 1])), ("thing", k))
            self.assert_raises(BadOrder, {"number": k}, order_script, *sample(), changed)
            self.assert_raises(BadOrder, {"number": k}, order_script, *sample(), list(changed[:k + 1]))


class KiteTest(Case):
    def test_either_road_of_u(self):
        f, g = made_stand(KITE_WORLD, ("a", "b", "b")), made_stand(KITE_WORLD, ("d", "d", "c"))
        for road in [("a", "b", "d"), ("a", "c", "d")]:
            roads = (road, ("b", "d"), ("b", "c"))
            self.assert_same(pairs_of(f, g, roads), [(("u", 1), ("u", 2)), (("u", 1), ("v", 1))])
            self.assert_same(low_high(f, g, roads, "v", 1, "u"), (1, 2))
            self.assert_same(low_high(f, g, roads, "v", 1, "w"), (0, 1))
            self.assert_same(judge_order(f, g, roads, tuple("uvwu")), None)
            self.assert_same(judge_order(f, g, roads, tuple("vuwu")), ("pair", (("u", 1), ("v", 1))))
            self.assert_same(which_ahead(f, g, roads, ("w", 1), ("v", 1)), "open")
