"""What is passed is neither modified nor kept, and what is returned is new (0.2): orders, changes, counts, houses."""

import copy

from crossties.acts import act_word, good_acts, state_after
from crossties.breaking import breaking, judge_breaking
from crossties.changes import can_tie, can_untie, change_paper, changed, good_changes, judge_change
from crossties.console import Console
from crossties.errors import BadAct, BadMade, BadOrder
from crossties.goals import barred_things, gaps_after, wasted
from crossties.house import House
from crossties.lists import Lists
from crossties.makers import (
    kinds_peeling, map_of_kinds, map_of_spans, map_of_subtrees, map_of_window, spans_peeling, subtree_form,
    subtrees_peeling, window_peeling)
from crossties.maps import Map
from crossties.matrices import near_table, ring_count, row_count, row_counts, table_power, table_product
from crossties.ordercounts import (
    count_orders, drawn_order, moments, next_order, order_at, order_number, orders_beginning)
from crossties.parties import Party
from crossties.standcounts import (
    chance_of_post, count_amid, count_stands, count_ways, count_within, farthest, mean_apart)
from crossties.standnumbers import (
    drawn_stand, next_stand, number_within, stand_at, stand_number, stand_within_at, stands_from)
from crossties.stands import Stand
from crossties.ways import any_roads

from tests.samples import BAD_MAPS, GOOD_MAPS, KITE_WORLD, Case, long_worlds, made_stand, peeled_map, ring_of_posts

START = ("a", "b", "b")
END = ("d", "d", "c")


def kite():
    f, g = made_stand(KITE_WORLD, START), made_stand(KITE_WORLD, END)
    return f, g, any_roads(f, g)


def told_stand(stand):
    return (stand.map().posts(), stand.map().ties(), stand.party().things(), stand.party().bonds(), stand.posts())


def comparable(value):
    """A value in which objects of the package are told by what they consist of, so that kinds can be compared."""
    if isinstance(value, Stand):
        return told_stand(value)
    if isinstance(value, Map):
        return value.posts(), value.ties()
    if isinstance(value, (list, tuple)):
        parts = [comparable(part) for part in value]
        return parts if isinstance(value, list) else tuple(parts)
    return value


class PassedTest(Case):
    def stay(self, call, *arguments):
        before = copy.deepcopy(arguments)
        value = call(*arguments)
        self.assertEqual(arguments, before)
        return value

    def test_orders(self):
        f, g, roads = kite()
        order = list(order_at(f, g, roads, 1))
        for call in [count_orders, moments]:
            self.stay(call, f, g, list(roads))
        for call in [order_number, next_order, orders_beginning]:
            self.stay(call, f, g, list(roads), order)
        wrong = ["u", ["v"], None]
        with self.assertRaises(BadOrder):
            order_number(f, g, roads, wrong)
        orders_beginning(f, g, roads, wrong)
        self.assertEqual(wrong, ["u", ["v"], None])
        self.assertEqual((told_stand(f), told_stand(g)), tuple(told_stand(stand) for stand in kite()[:2]))

    def test_made_maps_keep_no_list(self):
        kinds = [("pet", None), ("dog", "pet")]
        spans = [("p", 1, 3), ("q", 3, 5)]
        subtrees = [("x", ("dog", "pet")), ("y", ("dog",))]
        calls = [(map_of_kinds, [kinds]), (kinds_peeling, [kinds]), (map_of_spans, [spans]), (spans_peeling, [spans]),
                 (map_of_subtrees, [kinds, subtrees]), (subtrees_peeling, [kinds, subtrees])]
        for call, arguments in calls:
            passed = copy.deepcopy(arguments)
            value = self.stay(call, *passed)
            told = comparable(value)
            for row in passed:
                row.clear()
            self.assertEqual(comparable(value), told)
            self.assertEqual(comparable(call(*arguments)), told)

    def test_wrong_values_are_not_modified(self):
        for call, value in [
                (map_of_kinds, [("a", ["b"])]), (map_of_spans, [("a", 1, 2), ["b"]]), (kinds_peeling, [["a", None]]),
                (lambda value: map_of_subtrees([("n", None)], value), [("a", ["n"]), 3])]:
            before = copy.deepcopy(value)
            with self.assertRaises(BadMade):
                call(value)
            self.assertEqual(value, before)

    def test_judged_values(self):
        made = ring_of_posts(4)
        for value in [["ring", ["a"]], ("good", ["p0", "p1"]), ({"a": ["b"]}, []), (["p0"], [], {})]:
            self.stay(lambda passed: judge_change(made, "p0", "p1", passed), value)
            self.stay(lambda passed: judge_breaking(made, passed), value)
        self.assertEqual(made, ring_of_posts(4))

    def test_tables(self):
        table = near_table(peeled_map())
        self.stay(table_product, table, table)
        for n in range(4):
            self.stay(table_power, table, n)

    def test_stands_and_lists(self):
        f, g, _ = kite()
        made, party = f.map(), f.party()
        lists = Lists(made, [["a", "b"], ["b", "d"], ["b", "c"]])
        before = [told_stand(f), told_stand(g), lists.lists()]
        for call in [
                lambda: count_stands(made, party), lambda: count_within(made, party, lists),
                lambda: chance_of_post(made, party, "u", "a"), lambda: mean_apart(made, party), lambda: count_amid(f, g),
                lambda: count_ways(f, g), lambda: farthest(made, party), lambda: stand_at(made, party, 3),
                lambda: stand_number(f), lambda: next_stand(f), lambda: stands_from(made, party, number=2, many=3),
                lambda: drawn_stand(made, party, 99), lambda: stand_within_at(made, party, lists, 1),
                lambda: number_within(f, lists), lambda: good_changes(made), lambda: changed(made, "a", "d"),
                lambda: good_acts((f, (), g)), lambda: state_after((f, (), g), ("tie", "a", "d"))]:
            self.assertEqual(comparable(call()), comparable(call()))
            self.assertEqual([told_stand(f), told_stand(g), lists.lists()], before)

    def test_goals(self):
        f, g, _ = kite()
        script = [("w", "c"), ("u", "b")]
        self.assertEqual(self.stay(lambda passed: gaps_after(f, g, passed), script), [4, 3, 2])
        self.assertEqual(self.stay(lambda passed: wasted(f, g, passed), script), 0)
        self.assertEqual(self.stay(lambda passed: barred_things(f, g, passed), ["w", "v", "w"]), ["v", "w"])

    def test_acts(self):
        f, g, _ = kite()
        for state in [(f, (), g), (f, (), None)]:
            for value in [["nail", "u"], ("goal", ["d"]), ("join", "x", "a", ["u"]), ("nail", {"u": ["v"]}), [["step"]]]:
                before = copy.deepcopy(value)
                act_word(state, value)
                with self.assertRaises(BadAct):
                    state_after(state, value)
                self.assertEqual(value, before)
        house = House(f)
        acts = [("step", "u", "b"), ("tie", "a", "d"), ["nail", "u"]]
        for call in [house.tried, house.would]:
            with self.assertRaises(BadAct):
                call(acts)
            self.assertEqual(acts, [("step", "u", "b"), ("tie", "a", "d"), ["nail", "u"]])
        self.assertEqual(told_stand(f), told_stand(kite()[0]))


class ReturnedTest(Case):
    def calls(self):
        f, g, roads = kite()
        made, party = f.map(), f.party()
        house = House(f)
        house.tried([("goal", END), ("step", "w", "c"), ("nail", "w"), ("step", "u", "b"), ("free", "w")])
        house.undo()
        house.keep("m")
        return [
            lambda: moments(f, g, roads), lambda: good_changes(made), lambda: near_table(made),
            lambda: row_counts(made, 1), lambda: row_counts(made, 3), lambda: subtree_form(made)[0],
            lambda: subtree_form(made)[1], lambda: stands_from(made, party), lambda: gaps_after(f, g, []),
            lambda: barred_things(f, g, ["u"]), lambda: good_acts((f, (), g)), house.done, house.undone, house.nails,
            house.marks, house.way, house.next_steps]

    def test_lists_are_new(self):
        for call in self.calls():
            first = call()
            self.assertIs(type(first), list)
            wanted = comparable(first)
            self.assertIsNot(first, call())
            for part in first:
                if isinstance(part, list):
                    part.append("x")
            first.append("x")
            first[0] = None
            self.assertEqual(comparable(call()), wanted)

    def test_no_two_lists_are_the_same(self):
        for many in range(1, 4):
            made = map_of_window(many, 1)
            for table in [near_table(made), row_counts(made, 1), row_counts(made, 2), table_power([[0] * many] * many, 1),
                          table_product([[0] * many] * many, [[0] * many] * many), table_power([[0] * many] * many, 0)]:
                self.assertEqual(len({id(row) for row in [table, *table]}), many + 1)
        forest, subtrees = subtree_form(Map([], []))
        self.assertIsNot(forest, subtrees)

    def test_what_is_made_anew_is_told_the_same(self):
        for made in GOOD_MAPS[::4] + BAD_MAPS:
            again = Map(tuple(made.posts()), [(y, x) for x, y in made.ties()[::-1]])
            x, y = made.posts()[0], made.posts()[-1]
            party = Party(["u", "v"], [("u", "v")])
            same = Party(("u", "v"), [("v", "u")])
            calls = [
                lambda one, other: breaking(one), lambda one, other: change_paper(one, x, y),
                lambda one, other: changed(one, x, y), lambda one, other: good_changes(one),
                lambda one, other: farthest(one, other), lambda one, other: stand_at(one, other, 5),
                lambda one, other: mean_apart(one, other), lambda one, other: row_count(one, 5),
                lambda one, other: ring_count(one, 5), lambda one, other: stands_from(one, other, number=3)]
            if made in GOOD_MAPS:
                calls += [lambda one, other: subtree_form(one), lambda one, other: can_tie(one, x, y),
                          lambda one, other: can_untie(one, x, y)]
            for call in calls:
                told = [comparable(call(*both)) for both in [(made, party), (again, same), (made, party)]]
                self.assert_same(told[1], told[0])
                self.assert_same(told[2], told[0])

    def test_orders_and_houses_made_anew(self):
        for posts, ties, things, bonds in long_worlds()[::5]:
            again = (tuple(posts), tuple((y, x) for x, y in ties[::-1]), tuple(things), [(v, u) for u, v in bonds])
            told = []
            for world in [(posts, ties, things, bonds), again, (posts, ties, things, bonds)]:
                f, g = made_stand(world, [posts[0]] * len(things)), made_stand(world, [posts[-1]] * len(things))
                roads = any_roads(f, g)
                house = House(f)
                house.do(("goal", g.posts()))
                number = count_orders(f, g, roads) // 2
                told.append(comparable([
                    number, order_at(f, g, roads, number), drawn_order(f, g, roads, 10 ** 40), moments(f, g, roads),
                    house.way(), house.next_steps(), house.state(), Console(house).say("way"), count_ways(f, g)]))
            self.assert_same(told[1], told[0])
            self.assert_same(told[2], told[0])

    def test_windows(self):
        self.assertEqual(map_of_window(5, 2), map_of_window(5, 2))
        self.assert_same(window_peeling(5, 2), window_peeling(5, 2))
