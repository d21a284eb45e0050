"""What is passed is neither modified nor kept, and what is returned is new: 0.2."""

import copy

from crossties.between import all_between, begins, change_of, first_steps, nearest_stand
from crossties.crowds import crowds_of, crowds_with, is_crowd, map_of_crowds
from crossties.crowdtrees import count_crowd_trees, crowd_tree_of, judge_crowd_tree
from crossties.distances import distance, greatest_distance, judge_levels, levels
from crossties.errors import (
    BadLists, BadMade, BadMap, BadOrder, BadParty, BadRoads, BadStand, BadStep, BadText, NotGood, TooGreat, UnknownName)
from crossties.lexemes import lexemes
from crossties.lists import (
    Lists, are_open, distance_within, is_open_list, judge_not_open, not_open_paper, road_within)
from crossties.longrings import all_long_rings, cross_ties, is_ring, judge_ring, long_ring_of
from crossties.maps import Map, both_near, map_without, part_map, pieces_of
from crossties.maptexts import map_text, read_map
from crossties.pairs import (
    any_order, judge_order, low_high, order_script, pairs_of, steps_ahead, which_ahead)
from crossties.parties import Party, party_part, party_pieces, with_bond, without_bond
from crossties.peelings import (
    all_peelings, can_peel, first_posts, good, judge_peeling, later_near, peeling_of)
from crossties.plainwalks import (
    cheapest_by_walks, cheapest_walk, fewest_by_walks, reached, walk_by_walks, within)
from crossties.roads import all_roads, count_roads, is_road, road_at, road_number, road_of
from crossties.scripts import (
    first_bad, price, read_script, script_back, script_text, stands_along, walked)
from crossties.stands import Stand, gathered, loose_bonds, moved
from crossties.standtexts import party_text, read_party, read_stand, stand_text
from crossties.steps import all_steps, is_step, steps_of
from crossties.ways import (
    any_roads, any_way, apart, at_goal, judge_way, price_apart, way_by, way_within, wrong_road)

from tests.samples import (
    BAD_MAPS, FORK_WORLD, GOOD_MAPS, KITE_WORLD, POSTS, TIES, Case, example, levels_map, long_worlds, made_stand,
    peeled_map, ring_of_posts)


def kite():
    return made_stand(KITE_WORLD, ("a", "b", "b")), made_stand(KITE_WORLD, ("d", "d", "c"))


class PassedTest(Case):
    def test_a_map_keeps_no_list(self):
        posts = list(POSTS)
        ties = list(TIES)
        made = Map(posts, ties)
        self.assertEqual((posts, ties), (POSTS, TIES))
        posts[0] = "x"
        posts.append("y")
        ties.clear()
        self.assertIs(made == example(), True)
        self.assert_same(made.posts(), POSTS)
        self.assert_same(made.near("a"), ["a", "b"])
        self.assert_same(made.number("a"), 0)

    def test_wrong_values_are_not_modified(self):
        posts = ["a", "b", ["c"], "a"]
        ties = [("a", "b"), ["a", "b"]]
        before = copy.deepcopy((posts, ties))
        for arguments in [(posts, ties), (posts[:2], ties), (ties, posts)]:
            with self.assertRaises(BadMap):
                Map(*arguments)
        self.assertEqual((posts, ties), before)

    def test_lists_of_posts_are_not_modified(self):
        chosen = ["d", "a", "b"]
        for function in [part_map, map_without]:
            function(example(), chosen)
            self.assertEqual(chosen, ["d", "a", "b"])
            with self.assertRaises(UnknownName):
                function(example(), chosen + [["a"]])

    def test_lots_are_neither_modified_nor_kept(self):
        posts = list(POSTS)
        lots = [["b", "a"], ["a", "c", "d"], [], ["b", "a"]]
        before = copy.deepcopy((posts, lots))
        made = map_of_crowds(posts, lots)
        self.assertEqual((posts, lots), before)
        posts.reverse()
        lots[0].append("e")
        lots.pop()
        self.assertIs(made == map_of_crowds(*before), True)
        wrong = [["a", "b"], ["a", ["b"]]]
        with self.assertRaises(BadMade):
            map_of_crowds(POSTS, wrong)
        self.assertEqual(wrong, [["a", "b"], ["a", ["b"]]])

    def test_judged_values_are_not_modified(self):
        values = [["a", "b"], (["a"], "b"), [("d", ["e"])], {"a": ["b"]}, [(0, 1), (1, 2)], [(0, [1])], ([1], None)]
        before = copy.deepcopy(values)
        for judge in [judge_peeling, is_ring, judge_ring, is_crowd, judge_crowd_tree]:
            for value in values:
                judge(peeled_map(), value)
        for value in values:
            judge_levels(peeled_map(), "a", value)
        self.assertEqual(values, before)

    def test_lists_of_lists_are_neither_modified_nor_kept(self):
        rows = [["c", "b"], ["a", "c"], ("e", "d")]
        before = copy.deepcopy(rows)
        made = Lists(levels_map(), rows)
        is_open_list(levels_map(), rows[0])
        self.assertEqual(rows, before)
        rows[0].append("a")
        rows.pop()
        self.assertIs(made == Lists(levels_map(), before), True)
        self.assert_same(made.lists(), [("b", "c"), ("a", "c"), ("d", "e")])
        wrong = [["a"], ["b", ["c"]]]
        self.assert_raises(BadLists, {"path": (1, 1)}, Lists, levels_map(), wrong)
        self.assertEqual(wrong, [["a"], ["b", ["c"]]])

    def test_a_party_keeps_no_list(self):
        things = list(POSTS)
        bonds = list(TIES)
        made = Party(things, bonds)
        self.assertEqual((things, bonds), (POSTS, TIES))
        things.reverse()
        bonds.pop()
        self.assertIs(made == Party(POSTS, TIES), True)
        chosen = ["d", "a", "b"]
        part = party_part(made, chosen)
        self.assertEqual(chosen, ["d", "a", "b"])
        chosen.clear()
        self.assert_same(part.things(), ["a", "b", "d"])
        wrong = [("a", "b"), ("b", ["a"])]
        self.assert_raises(BadParty, {"path": (1, 1, 1)}, Party, POSTS, wrong)
        self.assertEqual(wrong, [("a", "b"), ("b", ["a"])])

    def test_a_stand_keeps_no_list(self):
        posts = ["a", "b"]
        made = made_stand(FORK_WORLD, posts)
        loose_bonds(made.map(), made.party(), posts)
        self.assertEqual(posts, ["a", "b"])
        posts[0] = "d"
        posts.append("d")
        self.assert_same(made.posts(), ("a", "b"))
        self.assertIs(made == made_stand(FORK_WORLD, ("a", "b")), True)
        wrong = ["a", ["b"]]
        self.assert_raises(BadStand, {"path": (1,)}, made_stand, FORK_WORLD, wrong)
        self.assertEqual(wrong, ["a", ["b"]])
        moved(made, "u", "b")
        self.assert_same(made.posts(), ("a", "b"))

    def test_prices_and_judged_papers_are_not_modified(self):
        f = made_stand(FORK_WORLD, ("a", "b"))
        g = made_stand(FORK_WORLD, ("c", "d"))
        prices = [2, 5]
        cheapest_by_walks(f, g, prices)
        cheapest_walk(f, g, prices)
        self.assertEqual(prices, [2, 5])
        lists = Lists(levels_map(), [("d", "b")])
        values = [["a"], (0, "b", "d", [1, 0, 1, 2, None], [0, None]), (["b"], "c", "d"), {"b": ["c"]}]
        before = copy.deepcopy(values)
        for value in values:
            judge_not_open(lists, value)
            is_road(levels_map(), value)
            with self.assertRaises(BadRoads):
                road_number(levels_map(), value)
        self.assertEqual(values, before)

    def test_scripts_roads_and_orders_are_not_modified(self):
        f, g = kite()
        script = [("u", "c"), ("v", "d"), ("w", "c"), ("u", "d")]
        roads = [("a", "c", "d"), ("b", "d"), ("b", "c")]
        order = ["u", "v", "w", "u"]
        prices = [1, 2, 3]
        stands = [g, f]
        values = (script, roads, order, prices, stands)
        before = tuple(list(value) for value in values)
        for call in [stands_along, walked, script_back, first_bad]:
            call(f, script)
        script_text(script)
        price(f.party(), prices, script)
        price_apart(f, g, prices)
        judge_way(f, g, script)
        wrong_road(f, g, roads)
        way_by(f, g, roads)
        nearest_stand(f, stands)
        for call in [judge_order, order_script]:
            call(f, g, roads, order)
        for call in [pairs_of, any_order]:
            call(f, g, roads)
        low_high(f, g, roads, "v", 1, "u")
        which_ahead(f, g, roads, ("u", 1), ("v", 1))
        self.assertEqual(values, before)

    def test_wrong_scripts_roads_and_orders_are_not_modified(self):
        f, g = kite()
        values = [[("u", "c"), ["v", "d"]], [("a", "c", "d"), ["b", "d"], ("b", "c")], ["u", ["v"]], ["v", "u"], {"u": []}]
        before = copy.deepcopy(values)
        for value in values:
            first_bad(f, value)
            judge_way(f, g, value)
            wrong_road(f, g, value)
            is_step(f, value)
            judge_order(f, g, any_roads(f, g), value)
            for kind, call in [
                    (BadRoads, lambda value=value: way_by(f, g, value)), (BadStep, lambda value=value: begins(f, g, value)),
                    (BadStep, lambda value=value: stands_along(f, value)),
                    (BadOrder, lambda value=value: order_script(f, g, any_roads(f, g), value)),
                    (UnknownName, lambda value=value: steps_ahead(f, g, any_roads(f, g), value))]:
                with self.assertRaises(kind):
                    call()
        self.assertEqual(values, before)

    def test_a_part_keeps_no_list(self):
        chosen = ["d", "b"]
        part = part_map(example(), chosen)
        chosen.append("a")
        self.assert_same(part.posts(), ["b", "d"])


class ReturnedTest(Case):
    def test_lists_are_new(self):
        made = example()
        calls = [
            made.posts, made.ties, lambda: made.near("b"), lambda: made.tied("b"), lambda: pieces_of(made),
            lambda: both_near(made, "b", "c"), lambda: lexemes("map (a)"), lambda: first_posts(made),
            lambda: all_peelings(made), lambda: later_near(made, tuple(POSTS)), lambda: crowds_of(made),
            lambda: crowds_with(made, "b"), lambda: crowd_tree_of(made), lambda: all_long_rings(ring_of_posts(4)),
            lambda: cross_ties(peeled_map(), ("a", "b", "d", "c"))]
        lists = Lists(levels_map(), [("d", "b"), ("c", "a")])
        party = Party(POSTS, TIES)
        f = made_stand(FORK_WORLD, ("a", "b"))
        g = made_stand(FORK_WORLD, ("c", "d"))
        calls += [
            lambda: all_roads(levels_map(), "b", "d"), lists.lists, party.things, party.bonds,
            lambda: party.bonded("b"), lambda: party_pieces(party), lambda: f.things_at("b"),
            lambda: loose_bonds(f.map(), f.party(), ["a", "c"]), lambda: within(f, 2), lambda: reached(f),
            lambda: walk_by_walks(f, g, 3), lambda: cheapest_walk(f, g, [2, 5])]
        script = [("u", "b"), ("v", "d"), ("u", "c")]
        start, goal = kite()
        roads = any_roads(start, goal)
        whole = Lists(start.map(), [start.map().posts()] * 3)
        calls += [
            lambda: all_steps(f), lambda: steps_of(f, "u"), lambda: stands_along(f, script),
            lambda: script_back(f, script), lambda: read_script("script {u b;}"),
            lambda: at_goal(start, made_stand(KITE_WORLD, ("a", "c", "b"))), lambda: any_roads(start, goal),
            lambda: way_by(start, goal, roads), lambda: any_way(start, goal), lambda: way_within(start, goal, whole),
            lambda: first_steps(start, goal), lambda: all_between(start, goal), lambda: pairs_of(start, goal, roads),
            lambda: order_script(start, goal, roads, any_order(start, goal, roads)),
            lambda: steps_ahead(start, goal, roads, ("u", 2))]
        for call in calls:
            first = call()
            wanted = list(first)
            self.assertIsNot(first, call())
            first.append("x")
            first[0] = None
            self.assert_same(call(), wanted)
            first.clear()
            self.assert_same(call(), wanted)
        self.assertIs(made == example(), True)
        self.assertEqual(map_text(made), map_text(example()))
        self.assertIs(lists == Lists(levels_map(), [("d", "b"), ("c", "a")]), True)
        self.assertIs(party == Party(POSTS, TIES), True)
        self.assertIs(f == made_stand(FORK_WORLD, ("a", "b")), True)

    def test_parties_and_stands_are_not_changed_by_functions(self):
        party = Party(POSTS, TIES)
        with_bond(party, "a", "e")
        without_bond(party, "a", "b")
        party_part(party, ["a"])
        read_party(party_text(party))
        self.assertIs(party == Party(POSTS, TIES), True)
        f = made_stand(FORK_WORLD, ("a", "b"))
        read_stand(f.map(), f.party(), stand_text(f))
        gathered(f.map(), f.party(), "d")
        self.assertIs(f == made_stand(FORK_WORLD, ("a", "b")), True)

    def test_maps_are_not_changed_by_functions(self):
        made = example()
        part_map(made, ["a"])
        map_without(made, ["a"])
        read_map(map_text(made))
        self.assertIs(made == example(), True)

    def test_equal_maps_are_told_the_same(self):
        calls = [
            first_posts, good, peeling_of, all_long_rings, long_ring_of, crowds_of, crowd_tree_of, count_crowd_trees,
            greatest_distance, lambda made: crowds_with(made, made.posts()[0]),
            lambda made: can_peel(made, made.posts()[0]), lambda made: levels(made, made.posts()[0]),
            lambda made: distance(made, made.posts()[0], made.posts()[-1])]
        for made in GOOD_MAPS + BAD_MAPS:
            other = Map(tuple(made.posts()), [(y, x) for x, y in made.ties()[::-1]])
            for call in calls:
                if call is not all_long_rings or len(made.posts()) <= 8:
                    told = [self.value_or_ring(call, one) for one in [made, other, made]]
                    self.assert_same(told[1], told[0])
                    self.assert_same(told[2], told[0])

    def test_roads_and_lists_of_equal_maps_are_told_the_same(self):
        for made in GOOD_MAPS[::3] + BAD_MAPS:
            other = Map(tuple(made.posts()), [(y, x) for x, y in made.ties()[::-1]])
            x, y = made.posts()[0], made.posts()[-1]
            rows = [made.posts()[:4], made.posts()[::2], [x, y]]
            calls = [
                lambda one: road_of(one, x, y), lambda one: count_roads(one, x, y), lambda one: all_roads(one, x, y),
                lambda one: are_open(Lists(one, rows)), lambda one: not_open_paper(Lists(one, rows)),
                lambda one: distance_within(Lists(one, rows), 2, x, y),
                lambda one: road_within(Lists(one, rows), 0, x, one.posts()[3]),
                lambda one: road_at(one, x, one.posts()[1], 0), lambda one: road_number(one, (x,))]
            for call in calls:
                told = [self.value_or_error(call, one) for one in [made, other, made]]
                self.assert_same(told[1], told[0])
                self.assert_same(told[2], told[0])

    def value_or_error(self, call, made):
        try:
            return call(made)
        except TooGreat as error:
            return "too great", vars(error)

    def test_walks_of_equal_stands_are_told_the_same(self):
        posts, ties, things, bonds = FORK_WORLD
        again = (tuple(posts), tuple(ties[::-1]), tuple(things), [(v, u) for u, v in bonds])
        for row in [("c", "d"), ("d", "c"), ("a", "a")]:
            told = []
            for world in [FORK_WORLD, again, FORK_WORLD]:
                f, g = made_stand(world, ("a", "b")), made_stand(world, row)
                told.append([
                    walk_by_walks(f, g, 12), cheapest_walk(f, g, [0, 0]), cheapest_walk(f, g, [3, 3]),
                    fewest_by_walks(f, g, 12), [stand.posts() for stand in reached(f)]])
            self.assert_same(told[1], told[0])
            self.assert_same(told[2], told[0])

    def test_ways_of_equal_stands_are_told_the_same(self):
        for posts, ties, things, bonds in long_worlds()[::4]:
            again = (tuple(posts), tuple([(y, x) for x, y in ties[::-1]]), tuple(things), [(v, u) for u, v in bonds])
            for x, y in [(posts[0], posts[-1]), (posts[-1], posts[1])]:
                told = []
                for world in [(posts, ties, things, bonds), again, (posts, ties, things, bonds)]:
                    f, g = made_stand(world, [x] * len(things)), made_stand(world, [y] * len(things))
                    roads = any_roads(f, g)
                    lists = Lists(f.map(), [f.map().posts()] * len(things))
                    told.append([
                        roads, any_way(f, g), way_by(f, g, roads), way_within(f, g, lists), any_order(f, g, roads),
                        first_steps(f, g), pairs_of(f, g, roads), [change_of(f, g, step) for step in all_steps(f)]])
                self.assert_same(told[1], told[0])
                self.assert_same(told[2], told[0])

    def test_stands_are_not_changed_by_ways(self):
        f, g = kite()
        way_by(f, g, any_roads(f, g))
        walked(f, any_way(f, g))
        self.assert_same(apart(f, g), 4)
        self.assert_same([f.posts(), g.posts()], [("a", "b", "b"), ("d", "d", "c")])
        self.assertEqual((f, g), kite())

    def value_or_ring(self, call, made):
        try:
            return call(made)
        except NotGood as error:
            return "not good", error.ring

    def test_repeated_calls_agree(self):
        for _ in range(2):
            self.assert_same(pieces_of(example()), [("a", "b", "c", "d"), ("e",)])
            self.assert_raises(BadText, {"place": 4}, read_map, "map [ a")
            self.assert_raises(UnknownName, {"name": ["a"]}, example().near, ["a"])
