"""How many orders of steps can be done: S7.5 to S7.8 and the interface, crossties/ordercounts.py."""

import itertools
import math

from crossties.errors import BadOrder, BadRoads, NotGood, TooGreat, UnlikeMaps, UnlikeParties
from crossties.longrings import long_ring_of
from crossties.maps import Map, joined_maps
from crossties.ordercounts import (
    count_orders, drawn_order, moments, next_order, order_at, order_number, orders_beginning)
from crossties.pairs import judge_order
from crossties.parties import Party
from crossties.stands import Stand, gathered
from crossties.ways import any_roads

from tests import plain
from tests.samples import (
    BAD_MAPS, ORDER_WORLD, RING_WORLD, Case, band, good_worlds, long_worlds, made_stand, no_lists, no_posts, road_tasks,
    some, unlike_stands, words)

START = ("a", "b", "d")
END = ("c", "d", "c")
ROADS = [("a", "b", "c"), ("b", "c", "d"), ("d", "c")]
# The two orders of x and y, with z put in at each place, as the things come.
ORDERS = [tuple(row) for row in [
    "xxyyz", "xxyzy", "xxzyy", "xyxyz", "xyxzy", "xyzxy", "xzxyy", "xzyxy", "zxxyy", "zxyxy"]]


def sample():
    return made_stand(ORDER_WORLD, START), made_stand(ORDER_WORLD, END), ROADS


class ExampleTest(Case):
    def test_the_numbers_of_orders(self):
        self.assert_same(count_orders(*sample()), 10)
        for number, order in enumerate(ORDERS):
            self.assert_same(order_at(*sample(), number), order)
            self.assert_same(order_number(*sample(), order), number)
            self.assert_same(order_number(*sample(), list(order)), number)
            self.assert_same(drawn_order(*sample(), number + 10 * 7), order)
        self.assert_same(order_at(*sample(), 0), tuple("xxyyz"))
        self.assert_same(order_at(*sample(), 9), tuple("zxyxy"))

    def test_next_orders(self):
        for one, other in zip(ORDERS, ORDERS[1:]):
            self.assert_same(next_order(*sample(), one), other)
        self.assertIs(next_order(*sample(), ORDERS[-1]), None)
        self.assertIs(next_order(*sample(), list(ORDERS[-1])), None)

    def test_numbers_that_no_order_has(self):
        for number in [10, 11, 1000, 10 ** 60]:
            self.assert_raises(TooGreat, {}, order_at, *sample(), number)

    def test_drawn_orders(self):
        for number in [0, 9, 10, 123456789, 10 ** 59, 10 ** 60 - 1]:
            self.assert_same(drawn_order(*sample(), number), ORDERS[number % 10])

    def test_the_moments(self):
        wanted = [(0, 0), (1, 0), (1, 1), (2, 0), (2, 1), (2, 2)]
        self.assert_same(moments(*sample()), [row + (z,) for row in wanted for z in (0, 1)])

    def test_beginnings(self):
        for value, many in [
                ([], 10), ("x", 8), ("z", 2), ("y", 0), ("xx", 3), ("xy", 3), ("xz", 2), ("xyz", 1), ("xyy", 0),
                ("xxyyz", 1), ("zz", 0), ("xxyyzz", 0), ("xxx", 0), ("w", 0)]:
            self.assert_same(orders_beginning(*sample(), list(value)), many)
            self.assert_same(orders_beginning(*sample(), tuple(value)), many)

    def test_beginnings_with_anything(self):
        for value in no_posts():
            for row in [[value], ["x", value], ("z", "x", value), [value, "x"]]:
                self.assert_same(orders_beginning(*sample(), row), 0)

    def test_orders_that_cannot_go_on(self):
        for value, number in [
                (tuple("yxxyz"), 0), (tuple("xyyxz"), 2), (list("xxyy"), 4), ([], 0), ((), 0), (tuple("xxyyzz"), 5),
                (tuple("xxx"), 2), (("x", None), 1), (("x", ["x"]), 1), (tuple("zz"), 1), (tuple("xxyya"), 4)]:
            for call in [order_number, next_order]:
                self.assert_raises(BadOrder, {"number": number}, call, *sample(), value)

    def test_members_of_all_kinds(self):
        for k, value in itertools.product(range(5), no_posts() + ["w", ("x",), ("x", 1), ["x"]]):
            changed = ORDERS[0][:k] + (value,) + ORDERS[0][k + 1:]
            for call in [order_number, next_order]:
                self.assert_raises(BadOrder, {"number": k}, call, *sample(), changed)
                self.assert_raises(BadOrder, {"number": k}, call, *sample(), list(changed[:k + 1]))


class EmptyTest(Case):
    def one_order(self, f, g, roads):
        self.assert_same(count_orders(f, g, roads), 1)
        self.assert_same(moments(f, g, roads), [(0,) * len(roads)])
        self.assert_same(order_at(f, g, roads, 0), ())
        self.assert_raises(TooGreat, {}, order_at, f, g, roads, 1)
        for number in [0, 1, 2, 10 ** 59]:
            self.assert_same(drawn_order(f, g, roads, number), ())
        for value in [(), []]:
            self.assert_same(order_number(f, g, roads, value), 0)
            self.assertIs(next_order(f, g, roads, value), None)
            self.assert_same(orders_beginning(f, g, roads, value), 1)
        for value in ["x", "u", None, ["u"]]:
            self.assert_same(orders_beginning(f, g, roads, [value]), 0)
            self.assert_raises(BadOrder, {"number": 0}, order_number, f, g, roads, [value])
            self.assert_raises(BadOrder, {"number": 0}, next_order, f, g, roads, [value])

    def test_no_things(self):
        for made in [Map([], []), Map(["a", "b"], [("a", "b")])]:
            f = Stand(made, Party([], []), ())
            for roads in [[], ()]:
                self.one_order(f, f, roads)

    def test_equal_stands(self):
        for world in good_worlds(20, 61):
            for row in some(plain.stands(*world), 3, 61):
                self.one_order(made_stand(world, row), made_stand(world, row), [(x,) for x in row])


class SmallWorldsTest(Case):
    def test_all_orders(self):
        several = 0
        for world, row, there, roads in road_tasks(good_worlds(40, 62) + long_worlds(), 62, 6):
            f, g = made_stand(world, row), made_stand(world, there)
            orders = plain.doable_orders(world, row, roads)
            several += len(orders) > 3
            self.assert_same(count_orders(f, g, tuple(roads)), len(orders))
            for number, order in enumerate(orders):
                self.assert_same(order_at(f, g, roads, number), order)
                self.assert_same(order_number(f, g, roads, order), number)
                self.assert_same(drawn_order(f, g, roads, number + 3 * len(orders)), order)
                wanted = orders[number + 1] if number + 1 < len(orders) else None
                self.assert_same(next_order(f, g, roads, order), wanted)
            self.assert_raises(TooGreat, {}, order_at, f, g, roads, len(orders))
        self.assertGreater(several, 50)

    def test_moments(self):
        for world, row, there, roads in road_tasks(good_worlds(40, 63) + long_worlds(), 63, 6):
            f, g = made_stand(world, row), made_stand(world, there)
            found = {tuple(order[:k].count(u) for u in world[2])
                     for order in plain.doable_orders(world, row, roads) for k in range(len(order) + 1)}
            self.assert_same(moments(f, g, roads), sorted(found))

    def test_beginnings(self):
        for world, row, there, roads in road_tasks(good_worlds(30, 64) + long_worlds()[::3], 64, 4):
            f, g = made_stand(world, row), made_stand(world, there)
            orders = plain.doable_orders(world, row, roads)
            for many in range(sum(len(road) - 1 for road in roads) + 2):
                for value in itertools.product(world[2], repeat=many):
                    wanted = sum(order[:many] == value and many <= len(order) for order in orders)
                    self.assert_same(orders_beginning(f, g, roads, list(value)), wanted)

    def test_orders_that_are_not_doable(self):
        for world, row, there, roads in road_tasks(good_worlds(20, 65) + long_worlds(), 65, 6):
            f, g = made_stand(world, row), made_stand(world, there)
            by_thing = dict(zip(world[2], roads))
            doable = plain.doable_orders(world, row, roads)
            for order in some([order for order in plain.orders(by_thing) if order not in doable], 20, 65):
                script = plain.order_script(by_thing, order)
                number = [plain.leads(world, row, script[:k + 1]) for k in range(len(script))].index(None)
                self.assert_raises(BadOrder, {"number": number}, order_number, f, g, roads, order)
                self.assert_raises(BadOrder, {"number": number}, next_order, f, g, roads, order)


class LimitsTest(Case):
    def test_two_lots_without_a_bond_between_them(self):
        things = ["u", "p", "v", "q"]
        made = band(6, 1, words(6))
        lots = [Party(["u", "v"], [("u", "v")]), Party(["p", "q"], [("p", "q")])]
        whole = Party(things, [("u", "v"), ("p", "q")])
        roads = [tuple(words(4)), tuple(words(4))]
        ends = [(gathered(made, party, "p0"), gathered(made, party, "p3")) for party in [*lots, whole]]
        alone = [count_orders(f, g, roads) for f, g in ends[:2]]
        self.assertEqual(alone[0], alone[1])
        self.assert_same(count_orders(*ends[2], roads * 2), alone[0] * alone[1] * math.comb(12, 6))
        last = order_at(*ends[2], roads * 2, alone[0] * alone[1] * math.comb(12, 6) - 1)
        self.assertIs(next_order(*ends[2], roads * 2, last), None)
        self.assert_same(order_at(*ends[2], roads * 2, 0), tuple("upvuvuvqpqpq"))

    def test_six_things_and_fourteen_steps(self):
        made = band(6, 1, words(6))
        for bonds in [[], list(zip(words(6, "t"), words(6, "t")[1:])), [("t0", "t5"), ("t5", "t1"), ("t2", "t4")]]:
            party = Party(words(6, "t"), bonds)
            f, g = gathered(made, party, "p0"), gathered(made, party, "p2")
            roads = [("p0", "p1", "p2")] * 6
            total = count_orders(f, g, roads)
            if not bonds:
                self.assertEqual(total, math.factorial(12) // 2 ** 6)
            for number in [0, 1, total // 3, total // 2, total - 2, total - 1]:
                order = order_at(f, g, roads, number)
                self.assertIs(judge_order(f, g, roads, order), None)
                self.assert_same(order_number(f, g, roads, order), number)
                self.assert_same(drawn_order(f, g, roads, total * 10 ** 30 + number), order)
                wanted = order_at(f, g, roads, number + 1) if number + 1 < total else None
                self.assert_same(next_order(f, g, roads, order), wanted)
            self.assert_raises(TooGreat, {}, order_at, f, g, roads, total)
            beginnings = [orders_beginning(f, g, roads, [thing]) for thing in party.things()]
            self.assertEqual(sum(beginnings), total)

    def test_two_things_that_go_side_by_side(self):
        """Bonded things along a row of posts keep within one step of one another: two turns for each of the steps."""
        made = band(8, 1, words(8))
        party = Party(["u", "v"], [("u", "v")])
        f, g = gathered(made, party, "p0"), gathered(made, party, "p7")
        roads = [tuple(words(8))] * 2
        self.assert_same(count_orders(f, g, roads), 2 ** 7)
        self.assert_same(order_at(f, g, roads, 0), ("u", "v") * 7)
        self.assert_same(order_at(f, g, roads, 2 ** 7 - 1), ("v", "u") * 7)
        self.assert_same(order_at(f, g, roads, 1), ("u", "v") * 6 + ("v", "u"))
        self.assertEqual(len(moments(f, g, roads)), 8 + 7 * 2)


CALLS = [
    count_orders, moments, lambda f, g, roads: order_at(f, g, roads, 10 ** 60),
    lambda f, g, roads: order_number(f, g, roads, [None]), lambda f, g, roads: next_order(f, g, roads, [None]),
    lambda f, g, roads: drawn_order(f, g, roads, 10 ** 59), lambda f, g, roads: orders_beginning(f, g, roads, [None])]


class ErrorsTest(Case):
    def test_unlike_maps_come_first_then_unlike_parties(self):
        f, _, roads = sample()
        maps, parties = unlike_stands(ORDER_WORLD, START)
        for call, value in itertools.product(CALLS, [roads, None, []]):
            for other in maps:
                self.assert_raises(UnlikeMaps, {}, call, f, other, value)
                self.assert_raises(UnlikeMaps, {}, call, other, f, value)
            for other in parties:
                self.assert_raises(UnlikeParties, {}, call, f, other, value)
                self.assert_raises(UnlikeParties, {}, call, other, f, value)

    def test_a_long_ring_comes_next(self):
        f, g = made_stand(RING_WORLD, tuple("abcd")), made_stand(RING_WORLD, tuple("bcda"))
        for call, value in itertools.product(CALLS, [any_roads(f, g), None, []]):
            self.assert_raises(NotGood, {"ring": long_ring_of(f.map())}, call, f, g, value)
            for other in unlike_stands(RING_WORLD, tuple("abcd"))[0]:
                self.assert_raises(UnlikeMaps, {}, call, f, other, value)
        for made in [*BAD_MAPS, joined_maps(Map(["x", "y"], []), BAD_MAPS[0])]:
            party = Party(["u"], [])
            f, g = gathered(made, party, made.posts()[0]), gathered(made, party, made.posts()[1])
            for call in CALLS:
                self.assert_raises(NotGood, {"ring": long_ring_of(made)}, call, f, g, None)

    def test_wrong_roads_come_then(self):
        f, g, _ = sample()
        for call in CALLS:
            for value in [*no_lists(), [], (), ROADS[:2], ROADS + [("a",)], [ROADS]]:
                self.assert_raises(BadRoads, {"path": ()}, call, f, g, value)
            for k, value in itertools.product(range(3), [*no_posts(), ["a", "b", "c"], ("a", "b"), ("a", "c"), ("d",)]):
                self.assert_raises(BadRoads, {"path": (k,)}, call, f, g, ROADS[:k] + [value] + ROADS[k + 1:])
                self.assert_raises(BadRoads, {"path": (k,)}, call, f, g, (*ROADS[:k], *[value] * (3 - k)))

    def test_things_in_two_pieces_have_no_road(self):
        made = Map(list("abcd"), [("a", "b"), ("c", "d")])
        party = Party(["w", "v"], [])
        f, g = Stand(made, party, ["a", "a"]), Stand(made, party, ["b", "c"])
        for call in CALLS:
            self.assert_raises(BadRoads, {"path": (1,)}, call, f, g, [("a", "b"), ("a", "c")])
