"""Houses: S10.1, S10.4 to S10.7, S10.9 and the interface, crossties/house.py."""

import copy
import random

from crossties.acts import good_acts
from crossties.errors import BadAct, NoRoad, NothingDone, UnknownName, UnlikeMaps, UnlikeParties
from crossties.house import House
from crossties.maps import Map
from crossties.parties import Party
from crossties.peelings import good
from crossties.plainwalks import fewest_by_walks
from crossties.stands import Stand, gathered
from crossties.ways import apart, judge_way

from tests import plain, plainhouses
from tests.samples import (
    KITE_WORLD, Case, band, long_worlds, made_stand, no_posts, no_words, plain_map, random_worlds, ring_of_posts, words)

RING_POSTS = list("nesw")


def ring_stand():
    made = Map(RING_POSTS, [("n", "e"), ("e", "s"), ("s", "w"), ("w", "n")])
    return Stand(made, Party(list("abcd"), [("a", "b"), ("b", "c"), ("c", "d"), ("a", "d")]), RING_POSTS)


def ring_house():
    house = House(ring_stand())
    house.do(("goal", tuple("eswn")))
    return house


def kite_house(goal=("d", "d", "c")):
    house = House(made_stand(KITE_WORLD, ("a", "b", "b")))
    house.do(("goal", goal))
    return house


def told(house):
    """All that a house tells, so that nothing has changed if it is the same."""
    stand, nails, goal = house.state()
    return (stand.map().posts(), stand.map().ties(), stand.party().things(), stand.party().bonds(), stand.posts(),
            nails, None if goal is None else goal.posts(), house.done(), house.undone(), house.paid(), house.gap(),
            house.waste(), house.left(), house.way(), house.next_steps(), house.marks(),
            [house.marked(name).posts() for name in house.marks()])


class ExampleTest(Case):
    def test_the_long_ring(self):
        house = ring_house()
        self.assert_same(house.gap(), 4)
        self.assertIs(house.left(), None)
        self.assertIs(house.way(), None)
        self.assertIs(house.next_steps(), None)
        for thing in "abcd":
            for post in RING_POSTS:
                self.assert_raises(BadAct, {"word": "step"}, house.do, ("step", thing, post))
        self.assert_same(house.do(("tie", "n", "s")), 2)
        self.assert_same(house.left(), 4)
        self.assert_same(house.next_steps(), [("b", "s"), ("d", "n")])
        self.assertIs(judge_way(house.stand(), house.goal(), house.way()), None)
        self.assert_same(house.do(("step", "b", "s")), 3)
        self.assert_same((house.left(), house.gap(), house.waste(), house.paid()), (3, 3, 0, 1))
        self.assert_raises(BadAct, {"word": "near"}, house.do, ("untie", "s", "n"))
        for step in house.way():
            house.do(("step", *step))
        self.assert_same((house.left(), house.gap(), house.waste(), house.paid()), (0, 0, 0, 4))
        self.assertEqual(house.stand(), house.goal())
        self.assert_same(house.way(), [])
        self.assert_same(house.next_steps(), [])

    def test_a_long_ring_that_comes_and_goes_under_the_stand(self):
        house = House(Stand(Map(RING_POSTS, [("n", "e"), ("e", "s"), ("s", "w")]), Party(["u"], []), ["n"]))
        house.do(("goal", ("w",)))
        self.assert_same((house.gap(), house.left()), (3, 3))
        house.do(("tie", "w", "n"))
        self.assert_same(house.gap(), 1)
        self.assertEqual((house.left(), house.way(), house.next_steps()), (None, None, None))
        house.do(("goal", ("n",)))
        self.assert_same(house.gap(), 0)
        self.assertEqual((house.left(), house.way(), house.next_steps()), (None, None, None))
        house.do(("untie", "e", "s"))
        self.assert_same((house.gap(), house.left(), house.way(), house.next_steps()), (0, 0, [], []))
        house.undo()
        self.assertIs(house.left(), None)
        house.do(("tie", "e", "w"))
        self.assert_same((house.left(), house.waste()), (0, 0))


class NewHouseTest(Case):
    def test_a_new_house(self):
        for stand in [ring_stand(), Stand(Map([], []), Party([], []), ()), made_stand(KITE_WORLD, ("a", "b", "b"))]:
            house = House(stand)
            self.assertEqual(house.stand(), stand)
            self.assertIs(house.goal(), None)
            self.assert_same(house.nails(), [])
            self.assertEqual(house.state(), (stand, (), None))
            self.assert_same((house.done(), house.undone(), house.marks(), house.paid()), ([], [], [], 0))
            self.assertEqual((house.gap(), house.waste(), house.left(), house.way(), house.next_steps()), (None,) * 5)
            self.assert_raises(NothingDone, {}, house.undo)
            self.assert_raises(NothingDone, {}, house.redo)

    def test_a_house_without_things(self):
        for made in [Map([], []), plain_map(2), ring_of_posts(4)]:
            house = House(Stand(made, Party([], []), ()))
            self.assert_same(house.do(("goal", ())), 1)
            self.assertEqual(house.goal(), house.stand())
            self.assert_same((house.gap(), house.waste()), (0, 0))
            self.assertEqual(house.left(), 0 if good(made) else None)
            self.assertEqual(house.way(), [] if good(made) else None)


class HistoryTest(Case):
    def test_undo_and_redo(self):
        house = kite_house()
        before = [told(house)]
        acts = [("step", "w", "c"), ("nail", "w"), ("free", "w"), ("step", "u", "b"), ("unbond", "v", "w")]
        for act in acts:
            house.do(act)
            before.append(told(house))
        for k in range(5, 0, -1):
            self.assert_same(house.undo(), k)
            self.assertEqual(told(house)[:7], before[k - 1][:7])
            self.assert_same(house.done(), [("goal", ("d", "d", "c"))] + acts[:k - 1])
            self.assert_same(house.undone(), acts[k - 1:])
        for k in range(1, 6):
            self.assert_same(house.redo(), k + 1)
            self.assertEqual(told(house)[:7], before[k][:7])
            self.assert_same(house.undone(), acts[k:])
        self.assert_raises(NothingDone, {}, house.redo)
        self.assertEqual(told(house), before[5])

    def test_a_new_act_clears_what_was_undone(self):
        house = kite_house()
        house.tried([("step", "u", "c"), ("step", "u", "b")])
        house.undo()
        house.undo()
        self.assert_same(house.undone(), [("step", "u", "c"), ("step", "u", "b")])
        self.assert_raises(BadAct, {"word": "step"}, house.do, ("step", "u", "d"))
        self.assert_raises(BadAct, {"word": "step"}, house.tried, [("step", "u", "c"), ("step", "u", "q")])
        self.assert_same(house.tried([]), 1)
        self.assert_same(house.tried(()), 1)
        house.would([("step", "u", "c")])
        self.assert_same(house.undone(), [("step", "u", "c"), ("step", "u", "b")])
        house.do(("step", "w", "c"))
        self.assert_same(house.undone(), [])
        self.assert_raises(NothingDone, {}, house.redo)

    def test_acts_are_kept_as_they_were_passed(self):
        house = House(made_stand(KITE_WORLD, ("a", "b", "b")))
        acts = [("join", "x", "a", ("v", "u")), ("goal", ("a", "b", "b", "a")), ("tie", "d", "a"), ("unbond", "w", "v"),
                ("untie", "d", "a"), ("bond", "w", "v"), ("goal", None), ("leave", "x")]
        self.assert_same(house.tried(acts), 8)
        self.assert_same(house.done(), acts)
        for _ in acts:
            house.undo()
        self.assert_same(house.undone(), acts)
        self.assertEqual(house.stand(), made_stand(KITE_WORLD, ("a", "b", "b")))

    def test_a_list_of_acts_of_which_one_cannot_be_done(self):
        house = kite_house()
        right = [("step", "u", "c"), ("step", "w", "c"), ("nail", "w"), ("free", "w"), ("step", "v", "d")]
        before = told(house)
        for k in range(6):
            for value, word in [
                    (("step", "u", "q"), "step"), (None, "form"), (["free", "u"], "form"), (("free", "u"), "thing")]:
                for call in [house.tried, house.would]:
                    self.assert_raises(BadAct, {"word": word}, call, right[:k] + [value] + right[k:])
                    self.assertEqual(told(house), before)
        behind = house.would(right)
        self.assertEqual(told(house), before)
        self.assert_same(house.tried(tuple(right)), 6)
        self.assertEqual(house.state(), behind)
        self.assertEqual(house.would([]), behind)

    def test_a_hundred_and_twenty_acts(self):
        house = House(made_stand(KITE_WORLD, ("a", "b", "b")))
        acts = [("step", "u", "c"), ("step", "u", "a")] * 60
        self.assert_raises(BadAct, {"word": "full"}, house.tried, acts + [("step", "u", "c")])
        self.assert_raises(BadAct, {"word": "full"}, house.would, acts + [("goal", None)])
        self.assert_raises(BadAct, {"word": "step"}, house.tried, acts + [("step", "u", "d")])
        self.assert_raises(BadAct, {"word": "full"}, house.tried, acts + [("step", "u", "c"), ("step", "u", "q")])
        self.assert_same(house.done(), [])
        self.assertEqual(house.would(acts), house.state())
        self.assert_same(house.tried(acts), 120)
        for call in [house.do, lambda act: house.tried([act]), lambda act: house.would([act])]:
            self.assert_raises(BadAct, {"word": "full"}, call, ("step", "u", "c"))
            self.assert_raises(BadAct, {"word": "full"}, call, ("goal", None))
            self.assert_raises(BadAct, {"word": "step"}, call, ("step", "u", "d"))
            self.assert_raises(BadAct, {"word": "form"}, call, None)
        self.assert_same(house.tried([]), 120)
        self.assert_same(house.paid(), 120)
        self.assert_same(house.undo(), 119)
        self.assert_same(house.redo(), 120)
        house.undo()
        self.assert_same(house.do(("nail", "w")), 120)
        self.assert_raises(BadAct, {"word": "full"}, house.do, ("free", "w"))
        self.assert_same((house.paid(), len(house.done())), (119, 120))

    def test_values_of_all_kinds(self):
        house = kite_house()
        before = told(house)
        for value in no_posts():
            for call in [house.do, lambda act: house.tried([act]), lambda act: house.would((("step", "u", "c"), act))]:
                self.assert_raises(BadAct, {"word": "form"}, call, value)
                self.assert_raises(BadAct, {"word": "thing"}, call, ("leave", value))
                self.assertEqual(told(house), before)


class AccountTest(Case):
    def test_waste_by_hand(self):
        house = kite_house()
        self.assert_same((house.gap(), house.waste(), house.paid()), (4, 0, 0))
        for act, gap, waste in [
                (("step", "w", "d"), 4, 1), (("step", "w", "c"), 3, 1), (("step", "u", "b"), 2, 1),
                (("step", "u", "a"), 3, 3), (("nail", "w"), 3, 3), (("unbond", "w", "v"), 3, 3), (("free", "w"), 3, 3),
                (("bond", "v", "w"), 3, 3), (("tie", "a", "d"), 2, 0), (("step", "u", "d"), 1, 0), (("step", "u", "b"), 2, 2)]:
            house.do(act)
            self.assert_same((house.gap(), house.waste()), (gap, waste))
        self.assert_same(house.paid(), 6)
        house.undo()
        self.assert_same((house.gap(), house.waste(), house.paid()), (1, 0, 5))
        house.undo()
        house.undo()
        self.assert_same((house.gap(), house.waste(), house.paid()), (3, 3, 4))
        house.do(("goal", None))
        self.assertEqual((house.gap(), house.waste(), house.left()), (None, None, None))
        self.assert_same(house.paid(), 4)
        house.do(("goal", ("a", "b", "c")))
        self.assert_same((house.gap(), house.waste(), house.left(), house.paid()), (0, 0, 0, 4))

    def test_a_goal_without_a_road(self):
        house = House(Stand(plain_map(3), Party(["u", "v"], []), ["p0", "p0"]))
        house.do(("goal", ("p2", "p0")))
        self.assertEqual((house.gap(), house.waste(), house.left(), house.way(), house.next_steps()), (None,) * 5)
        house.tried([("tie", "p0", "p1"), ("step", "v", "p1")])
        self.assertEqual((house.gap(), house.waste(), house.left()), (None,) * 3)
        house.do(("tie", "p2", "p1"))
        self.assert_same((house.gap(), house.waste(), house.left(), house.paid()), (3, 0, 3, 1))
        house.do(("step", "v", "p2"))
        self.assert_same((house.gap(), house.waste()), (4, 2))

    def test_what_joins_and_leaves(self):
        house = kite_house()
        house.do(("step", "w", "d"))
        house.do(("join", "x", "a", ()))
        self.assert_same((house.gap(), house.waste()), (4, 0))
        self.assert_same(house.goal().posts(), ("d", "d", "c", "a"))
        house.do(("step", "x", "c"))
        self.assert_same((house.gap(), house.waste()), (5, 2))
        house.do(("leave", "x"))
        self.assert_same((house.gap(), house.waste(), house.paid()), (4, 0, 2))

    def test_a_nailed_thing_never_moves_on_a_way(self):
        house = kite_house(("d", "b", "b"))
        house.tried([("nail", "v"), ("nail", "w")])
        self.assert_same(house.nails(), ["v", "w"])
        self.assert_same(house.left(), 2)
        self.assertEqual({thing for thing, _ in house.way()}, {"u"})
        for step in house.way():
            house.do(("step", *step))
        self.assert_same((house.left(), house.waste()), (0, 0))
        self.assert_raises(BadAct, {"word": "nail"}, house.do, ("step", "v", "d"))
        self.assert_raises(BadAct, {"word": "nail"}, house.do, ("goal", ("d", "d", "b")))
        self.assert_same(house.do(("goal", ("b", "b", "b"))), 6)

    def test_a_way_of_sixty_steps(self):
        made = band(16, 1, words(16))
        things = words(4, "t")
        party = Party(things, [("t0", "t1"), ("t1", "t2"), ("t2", "t3")])
        house = House(gathered(made, party, "p0"))
        house.do(("goal", ("p15",) * 4))
        self.assert_same(house.left(), 60)
        way = house.way()
        self.assertIs(judge_way(house.stand(), house.goal(), way), None)
        for k, (thing, post) in enumerate(way):
            self.assertIn((thing, post), house.next_steps())
            house.do(("step", thing, post))
            self.assert_same((house.left(), house.waste(), house.paid()), (59 - k, 0, k + 1))
        self.assertEqual(house.stand(), house.goal())


class MarksTest(Case):
    def test_marks(self):
        house = kite_house()
        self.assertIs(house.keep("one"), None)
        house.do(("step", "u", "c"))
        house.keep("two")
        self.assert_same(house.marks(), ["one", "two"])
        self.assertEqual(house.marked("one"), made_stand(KITE_WORLD, ("a", "b", "b")))
        self.assertEqual(house.marked("two"), house.stand())
        self.assert_same((house.gap_to("one"), house.gap_to("two")), (1, 0))
        house.do(("step", "v", "d"))
        house.keep("one")
        self.assert_same(house.marks(), ["one", "two"])
        self.assertEqual(house.marked("one"), house.stand())
        self.assert_same((house.gap_to("one"), house.gap_to("two")), (0, 1))
        house.undo()
        self.assert_same(house.gap_to("one"), 1)
        self.assert_same(house.marks(), ["one", "two"])
        self.assert_same(len(house.done()), 2)

    def test_marks_on_what_has_changed(self):
        house = kite_house()
        house.keep("m")
        for act, error in [
                (("tie", "a", "d"), UnlikeMaps), (("unbond", "v", "w"), UnlikeParties), (("join", "x", "a", ()), UnlikeParties),
                (("leave", "w"), UnlikeParties)]:
            house.do(act)
            self.assert_raises(error, {}, house.gap_to, "m")
            self.assertEqual(house.marked("m"), made_stand(KITE_WORLD, ("a", "b", "b")))
            house.undo()
            self.assert_same(house.gap_to("m"), 0)
        house.tried([("tie", "a", "d"), ("unbond", "v", "w"), ("step", "u", "c")])
        self.assert_raises(UnlikeMaps, {}, house.gap_to, "m")
        house.do(("untie", "d", "a"))
        self.assert_raises(UnlikeParties, {}, house.gap_to, "m")
        house.do(("bond", "w", "v"))
        self.assert_same(house.gap_to("m"), 1)

    def test_a_mark_without_a_road(self):
        house = House(Stand(Map(["a", "b"], []), Party(["u", "v"], []), ["a", "a"]))
        house.keep("m")
        house.tried([("tie", "a", "b"), ("step", "v", "b"), ("untie", "a", "b")])
        self.assert_raises(NoRoad, {"thing": "v"}, house.gap_to, "m")
        house.undo()
        self.assert_raises(UnlikeMaps, {}, house.gap_to, "m")

    def test_names(self):
        house = kite_house()
        house.keep("m")
        before = told(house)
        for value in no_words():
            self.assert_raises(UnknownName, {"name": value}, house.keep, value)
        for value in [*no_posts(), "n", "a", "u"]:
            self.assert_raises(UnknownName, {"name": value}, house.marked, value)
            self.assert_raises(UnknownName, {"name": value}, house.gap_to, value)
        self.assertEqual(told(house), before)
        names = words(20, "m")
        for name in names:
            house.keep(name)
        self.assert_same(house.marks(), ["m", *names])


class TwinTest(Case):
    def full(self):
        house = kite_house()
        house.tried([("step", "w", "c"), ("nail", "w"), ("tie", "a", "d")])
        house.keep("m")
        house.undo()
        house.keep("n")
        return house

    def test_a_twin_goes_its_own_way(self):
        house = self.full()
        before = told(house)
        twin = house.twin()
        self.assertIs(type(twin), House)
        self.assertIs(twin == house, True)
        self.assertEqual(told(twin), before)
        for change in [twin.undo, twin.redo, twin.redo, lambda: twin.do(("free", "w")), lambda: twin.keep("p"),
                       lambda: twin.tried([("step", "u", "b"), ("goal", None)])]:
            change()
            self.assertEqual(told(house), before)
        self.assertIs(twin == house, False)
        other = house.twin()
        house.do(("step", "u", "b"))
        house.keep("m")
        self.assertEqual(told(other), before)
        self.assert_same(other.undo(), 2)
        self.assertEqual(told(house.twin()), told(house))

    def test_a_twin_of_a_full_house(self):
        house = House(made_stand(KITE_WORLD, ("a", "b", "b")))
        house.tried([("step", "u", "c"), ("step", "u", "a")] * 60)
        twin = house.twin()
        self.assert_raises(BadAct, {"word": "full"}, twin.do, ("goal", None))
        for k in range(120, 0, -1):
            self.assert_same(twin.undo(), k - 1)
        self.assert_same(len(house.done()), 120)

    def test_equal_houses(self):
        house = self.full()
        self.assertIs(house == self.full(), True)
        self.assertIs(house != self.full(), False)
        changes = [
            lambda other: other.undo(), lambda other: other.redo(), lambda other: other.do(("free", "w")),
            lambda other: other.keep("p"), lambda other: other.do(("goal", None))]
        for change in changes:
            other = self.full()
            change(other)
            self.assertIs(house == other, False)
            self.assertIs(other == house, False)
        for value in [None, house.stand(), house.state(), [house], (house,), 0, "house", *no_posts()]:
            self.assertIs(house == value, False)

    def test_houses_that_differ_in_one_thing(self):
        self.assertIs(House(ring_stand()) == House(ring_stand()), True)
        self.assertIs(House(ring_stand()) == House(made_stand(KITE_WORLD, ("a", "b", "b"))), False)
        one, other = kite_house(), kite_house()
        one.keep("m")
        one.keep("n")
        other.keep("n")
        other.keep("m")
        self.assertIs(one == other, False)
        other = kite_house()
        other.keep("m")
        other.do(("step", "u", "b"))
        other.keep("n")
        other.undo()
        self.assertIs(one == other, False)
        # The undone act is left over as the only difference.
        other.keep("n")
        self.assertIs(one == other, False)
        one.do(("step", "u", "b"))
        one.undo()
        self.assertIs(one == other, True)
        one, other = House(ring_stand()), House(ring_stand())
        one.tried([("tie", "n", "s"), ("tie", "e", "w")])
        other.tried([("tie", "e", "w"), ("tie", "n", "s")])
        self.assertIs(one == other, False)
        self.assertEqual(one.state(), other.state())


class NewListsTest(Case):
    def test_lists_are_new_and_none_is_kept(self):
        house = kite_house()
        house.tried([("step", "w", "c"), ("nail", "w"), ("step", "u", "c")])
        house.undo()
        house.keep("m")
        before = told(house)
        for call in [house.done, house.undone, house.nails, house.marks, house.way, house.next_steps]:
            rows = call()
            self.assertIsNot(rows, call())
            rows.append(None)
            rows[0] = "x"
            self.assertEqual(told(house), before)
        acts = [("step", "u", "b"), ("step", "u", "a")]
        passed = copy.deepcopy(acts)
        house.would(passed)
        house.tried(passed)
        self.assertEqual(passed, acts)
        passed.append(None)
        passed[0] = None
        self.assert_same(house.done()[-2:], acts)

    def test_a_twin_shares_no_list(self):
        house = kite_house()
        twin = house.twin()
        twin.done().append(None)
        twin.marks().append("x")
        self.assertEqual(told(house), told(twin))


class HistoriesTest(Case):
    """Random histories beside plain ones: PlainState and its words."""

    def agree(self, house, states, acts, undone):
        model = states[-1]
        row = told(house)
        self.assert_same(row[:7], model.told())
        self.assert_same((row[7], row[8]), (acts, undone))
        self.assert_same(house.nails(), list(row[5]))
        self.assert_same(house.paid(), len([act for act in acts if act[0] == "step"]))
        gap = model.gap()
        self.assert_same(house.gap(), gap)
        self.assert_same(house.waste(), plainhouses.waste(states, acts))
        if gap is None or model.is_bad():
            self.assertEqual((house.left(), house.way(), house.next_steps()), (None,) * 3)
            return
        self.assert_same(house.left(), gap)
        self.assertIs(judge_way(house.stand(), house.goal(), house.way()), None)
        nearer = []
        for step in plain.steps(model.world(), row[4]):
            behind = plainhouses.after(model, ("step", *step))
            nearer += [step] if behind.gap() < gap else []
        self.assert_same(house.next_steps(), nearer)
        if gap <= 3:
            self.assert_same(fewest_by_walks(house.stand(), house.goal(), 12), gap)
        self.assertTrue(all(thing not in row[5] for thing, _ in house.way()))

    def history(self, world, seed, many):
        choose = random.Random(seed)
        row = choose.choice(plain.stands(*world))
        house = House(made_stand(world, row))
        states, acts, undone = [plainhouses.PlainState(world, row)], [], []
        for _ in range(many):
            turn = choose.random()
            if turn < 0.12 and acts:
                undone.insert(0, acts.pop())
                states.pop()
                self.assert_same(house.undo(), len(acts))
            elif turn < 0.2 and undone:
                acts.append(undone.pop(0))
                states.append(plainhouses.after(states[-1], acts[-1]))
                self.assert_same(house.redo(), len(acts))
            else:
                act = plainhouses.random_act(choose, states[-1])
                word = plainhouses.word(states[-1], act)
                if word is None:
                    acts.append(act)
                    states.append(plainhouses.after(states[-1], act))
                    undone = []
                    self.assert_same(house.do(act), len(acts))
                else:
                    self.assert_raises(BadAct, {"word": word}, house.do, act)
            self.agree(house, states, acts, undone)
        return house, states, acts

    def test_histories(self):
        with_gap = 0
        for seed, world in enumerate([*random_worlds(60, 151, 5, 3), *long_worlds()[::6]]):
            house, states, acts = self.history(world, seed, 30)
            with_gap += house.gap() is not None
            again = House(states[0] and made_stand(world, states[0].told()[4]))
            self.assertEqual(again.would(acts), house.state())
            again.tried(acts)
            self.assertEqual(told(again)[:8], told(house)[:8])
            for act in good_acts(house.state()):
                self.assertIs(good(house.would([act])[0].map()), True)
        self.assertGreater(with_gap, 20)

    def test_walks_to_the_goal_waste_nothing(self):
        for seed, world in enumerate(long_worlds()[::3]):
            choose = random.Random(seed)
            stands = plain.stands(*world)
            house = House(made_stand(world, choose.choice(stands)))
            house.do(("goal", choose.choice(stands)))
            many = house.left()
            while house.left() > 0:
                house.do(("step", *choose.choice(house.next_steps())))
                self.assert_same(house.waste(), 0)
            self.assert_same(house.paid(), many)
            self.assertEqual(house.stand(), house.goal())
            self.assert_same(apart(house.stand(), house.goal()), 0)
