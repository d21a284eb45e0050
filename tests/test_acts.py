"""Acts and the words that refuse them: S10.1 to S10.3, S10.6 and the interface, crossties/acts.py."""

import itertools
import random

from crossties.acts import act_word, good_acts, state_after
from crossties.errors import BadAct
from crossties.maps import Map
from crossties.parties import Party
from crossties.peelings import good
from crossties.stands import Stand, gathered

from tests import plain, plainhouses
from tests.samples import (
    FORK_WORLD, RING_WORLD, Case, band, good_worlds, made_stand, no_posts, plain_map, random_worlds, ring_of_posts, some,
    ties_of, words)

# A row of four posts; u and v are bonded, w is free to go anywhere.
WORLD = (list("abcd"), [("a", "b"), ("b", "c"), ("c", "d")], ["u", "v", "w"], [("u", "v")])
ROW = ("a", "b", "c")


def sample(goal=None, nails=()):
    return made_stand(WORLD, ROW), nails, None if goal is None else made_stand(WORLD, goal)


def told(state):
    """What PlainState.told tells, of a state of the package."""
    stand, nails, goal = state
    return (stand.map().posts(), stand.map().ties(), stand.party().things(), stand.party().bonds(), stand.posts(),
            nails, None if goal is None else goal.posts())


class WordsCase(Case):
    def refused(self, state, act, word):
        self.assert_same(act_word(state, act), word)
        self.assert_raises(BadAct, {"word": word}, state_after, state, act)

    def leads_to(self, state, act, wanted):
        self.assertIs(act_word(state, act), None)
        behind = state_after(state, act)
        self.assertIs(type(behind), tuple)
        self.assertIs(type(behind[1]), tuple)
        self.assertEqual(behind, wanted)
        if wanted[2] is not None:
            self.assertEqual((behind[2].map(), behind[2].party()), (behind[0].map(), behind[0].party()))


class ExampleTest(WordsCase):
    def state(self):
        posts = list("nesw")
        made = Map(posts, [("n", "e"), ("e", "s"), ("s", "w"), ("w", "n")])
        party = Party(list("abcd"), [("a", "b"), ("b", "c"), ("c", "d"), ("a", "d")])
        return Stand(made, party, posts), (), Stand(made, party, list("eswn"))

    def test_the_long_ring(self):
        for thing, post in itertools.product("abcd", "nesw"):
            self.refused(self.state(), ("step", thing, post), "step")
        self.assert_same(good_acts(self.state()), [("tie", "n", "s"), ("tie", "e", "w")])
        behind = state_after(self.state(), ("tie", "n", "s"))
        steps = [(thing, post) for thing, post in itertools.product("abcd", "nesw")
                 if act_word(behind, ("step", thing, post)) is None]
        self.assertIn(("b", "s"), steps)
        self.assertIn(("d", "n"), steps)
        self.assertNotIn(("a", "e"), steps)
        behind = state_after(behind, ("step", "b", "s"))
        self.refused(behind, ("untie", "s", "n"), "near")
        self.refused(behind, ("untie", "n", "s"), "near")
        self.assert_same(good_acts(behind), [("tie", "e", "w")])


class FormTest(WordsCase):
    def test_no_form(self):
        for state in [sample(), sample(("a", "b", "c")), (Stand(Map([], []), Party([], []), ()), (), None)]:
            for value in no_posts() + [["step", "u", "b"], ("step",), ("walk", "u"), ("STEP", "u", "b"), (("step",), "u")]:
                self.refused(state, value, "form")
            for value in no_posts():
                self.refused(state, (value, "u", "b"), "form")
                self.refused(state, (value,), "form")

    def test_too_many_members_or_too_few(self):
        for word, many in plainhouses.MEMBERS.items():
            for wrong in range(6):
                if wrong != many:
                    for value in ["u", None, (), ["u"]]:
                        self.refused(sample(), (word, *[value] * wrong), "form")

    def test_lists_do_not_stand_for_tuples(self):
        self.refused(sample(), ["nail", "u"], "form")
        self.refused(sample(), ("goal", list(ROW)), "stand")
        self.refused(sample(), ("join", "x", "a", ["u"]), "others")
        self.refused(sample(), ("join", "x", "a", []), "others")


class MembersTest(WordsCase):
    def test_members_of_all_kinds(self):
        for value in no_posts():
            for state in [sample(), sample(("a", "a", "c"), ("u",))]:
                for act, word in [
                        (("step", value, "b"), "step"), (("step", "w", value), "step"), (("nail", value), "thing"),
                        (("free", value), "thing"), (("goal", (value, "a", "a")), "stand"),
                        (("goal", ("a", "a", value)), "stand"), (("bond", value, "w"), "thing"),
                        (("bond", "u", value), "thing"), (("unbond", value, "v"), "thing"),
                        (("unbond", "u", value), "thing"), (("tie", value, "a"), "post"), (("tie", "a", value), "post"),
                        (("untie", value, "b"), "post"), (("untie", "a", value), "post"),
                        (("join", "x", value, ()), "post"), (("join", "x", "a", ("u", value)), "others"),
                        (("leave", value), "thing")]:
                    self.refused(state, act, word)
            if value is not None:
                self.refused(sample(), ("goal", value), "stand")
            if value not in ("zz", "a" * 12):
                self.refused(sample(), ("join", value, "a", ()), "thing")
                self.refused(sample(), ("join", value, None, None), "thing")
            if value != ():
                self.refused(sample(), ("join", "x", "a", value), "others")

    def test_things_are_no_posts(self):
        for act, word in [
                (("step", "a", "u"), "step"), (("nail", "a"), "thing"), (("bond", "a", "b"), "thing"),
                (("tie", "u", "v"), "post"), (("join", "a", "u", ()), "post"), (("join", "x", "a", ("a",)), "others"),
                (("goal", ("u", "v", "w")), "stand"), (("leave", "a"), "thing")]:
            self.refused(sample(), act, word)
        self.assertIs(act_word(sample(), ("join", "a", "a", ("u",))), None)


class ActsTest(WordsCase):
    def test_step(self):
        self.leads_to(sample(), ("step", "u", "b"), (made_stand(WORLD, ("b", "b", "c")), (), None))
        self.leads_to(sample(ROW, ("v",)), ("step", "w", "d"), (
            made_stand(WORLD, ("a", "b", "d")), ("v",), made_stand(WORLD, ROW)))
        self.refused(sample(), ("step", "v", "c"), "step")
        self.refused(sample(), ("step", "u", "a"), "step")
        self.refused(sample(None, ("u",)), ("step", "u", "b"), "nail")
        self.refused(sample(None, ("u",)), ("step", "u", "c"), "step")

    def test_nail_and_free(self):
        self.leads_to(sample(), ("nail", "w"), sample(None, ("w",)))
        self.leads_to(sample(None, ("w",)), ("nail", "u"), sample(None, ("u", "w")))
        self.leads_to(sample(None, ("u", "w")), ("nail", "v"), sample(None, ("u", "v", "w")))
        self.leads_to(sample(None, ("u", "w")), ("free", "u"), sample(None, ("w",)))
        self.leads_to(sample(("a", "a", "d")), ("nail", "u"), sample(("a", "a", "d"), ("u",)))
        self.refused(sample(None, ("w",)), ("nail", "w"), "thing")
        self.refused(sample(("a", "b", "a"), ()), ("nail", "w"), "goal")
        self.refused(sample(None, ("w",)), ("free", "u"), "thing")
        self.refused(sample(), ("free", "w"), "thing")

    def test_goal(self):
        self.leads_to(sample(), ("goal", ("d", "d", "a")), sample(("d", "d", "a")))
        self.leads_to(sample(("d", "d", "a")), ("goal", None), sample())
        self.leads_to(sample(), ("goal", None), sample())
        self.leads_to(sample(ROW, ("u", "w")), ("goal", ("a", "a", "c")), sample(("a", "a", "c"), ("u", "w")))
        self.refused(sample(), ("goal", ("a", "c", "a")), "stand")
        self.refused(sample(), ("goal", ("a", "b")), "stand")
        self.refused(sample(), ("goal", ("a", "b", "c", "d")), "stand")
        self.refused(sample(), ("goal", ()), "stand")
        self.refused(sample(), ("goal", made_stand(WORLD, ROW)), "stand")
        self.refused(sample(None, ("u", "w")), ("goal", ("a", "a", "d")), "nail")
        self.refused(sample(None, ("u",)), ("goal", ("d", "a", "d")), "stand")

    def test_a_goal_without_a_road(self):
        stand = Stand(plain_map(3), Party(["u"], []), ["p0"])
        goal = Stand(plain_map(3), Party(["u"], []), ["p2"])
        self.leads_to((stand, (), None), ("goal", ("p2",)), (stand, (), goal))

    def test_goals_of_no_things(self):
        for made in [Map([], []), plain_map(2)]:
            alone = Stand(made, Party([], []), ())
            self.leads_to((alone, (), None), ("goal", ()), (alone, (), alone))

    def bonded(self, bonds, row):
        return made_stand((WORLD[0], WORLD[1], WORLD[2], bonds), row)

    def test_bond_and_unbond(self):
        both = [("u", "v"), ("v", "w")]
        for act in [("bond", "v", "w"), ("bond", "w", "v")]:
            self.leads_to(sample(None, ("u",)), act, (self.bonded(both, ROW), ("u",), None))
            self.leads_to(sample(("d", "d", "d")), act, (self.bonded(both, ROW), (), self.bonded(both, ("d", "d", "d"))))
            self.refused(sample(("d", "d", "b")), act, "goal")
        for act in [("unbond", "v", "u"), ("unbond", "u", "v")]:
            self.leads_to(sample(("d", "d", "b")), act, (self.bonded([], ROW), (), self.bonded([], ("d", "d", "b"))))
            self.refused((self.bonded([], ROW), (), None), act, "bond")
        self.refused(sample(), ("bond", "v", "u"), "bond")
        self.refused(sample(), ("bond", "u", "w"), "near")
        self.refused(sample(("a", "a", "d")), ("bond", "w", "u"), "near")
        self.refused(sample(), ("unbond", "u", "w"), "bond")
        for word in ["bond", "unbond"]:
            self.refused(sample(), (word, "u", "u"), "thing")
            self.refused(sample(), (word, "x", "x"), "thing")

    def tied(self, ties, row):
        return made_stand((WORLD[0], ties, WORLD[2], WORLD[3]), row)

    def test_tie_and_untie(self):
        ring = WORLD[1] + [("a", "d")]
        for act in [("tie", "a", "d"), ("tie", "d", "a")]:
            self.leads_to(sample(("d", "d", "a"), ("u",)), act, (
                self.tied(ring, ROW), ("u",), self.tied(ring, ("d", "d", "a"))))
        for act in [("untie", "c", "d"), ("untie", "d", "c")]:
            self.leads_to(sample(None, ("u",)), act, (self.tied(WORLD[1][:2], ROW), ("u",), None))
            self.leads_to(sample(("a", "b", "d")), act, (
                self.tied(WORLD[1][:2], ROW), (), self.tied(WORLD[1][:2], ("a", "b", "d"))))
            for row in [("c", "d", "a"), ("d", "c", "a")]:
                self.refused(sample(row), act, "goal")
                self.refused((made_stand(WORLD, row), (), None), act, "near")
                self.refused((made_stand(WORLD, row), (), made_stand(WORLD, row)), act, "near")
            for row in [("c", "c", "d"), ("c", "b", "d"), ("d", "d", "c")]:
                self.assertIs(act_word(sample(row), act), None)
        self.refused(sample(), ("untie", "a", "b"), "near")
        self.refused(sample(), ("tie", "a", "b"), "tie")
        self.refused(sample(), ("untie", "a", "c"), "tie")
        for word in ["tie", "untie"]:
            self.refused(sample(), (word, "a", "a"), "post")
            self.refused(sample(), (word, "x", "x"), "post")

    def test_join_and_leave(self):
        joined = (WORLD[0], WORLD[1], ["u", "v", "w", "x"], [("u", "v"), ("v", "x"), ("w", "x")])
        for others in [("v", "w"), ("w", "v")]:
            for post in "bc":
                self.leads_to(sample(("c", "c", "d"), ("u",)), ("join", "x", "c", others), (
                    made_stand(joined, (*ROW, "c")), ("u",), made_stand(joined, ("c", "c", "d", "c"))))
        self.leads_to(sample(), ("join", "x", "d", ()), (
            made_stand((WORLD[0], WORLD[1], ["u", "v", "w", "x"], WORLD[3]), (*ROW, "d")), (), None))
        self.refused(sample(), ("join", "x", "d", ("w", "v")), "near")
        self.refused(sample(("d", "d", "d")), ("join", "x", "a", ("u",)), "goal")
        self.refused(sample(("d", "d", "d")), ("join", "x", "a", ("u", "w")), "near")
        self.refused(sample(), ("join", "x", "a", ("u", "u")), "others")
        self.refused(sample(), ("join", "x", "a", ("x",)), "others")
        self.refused(sample(), ("join", "u", "q", None), "thing")
        self.refused(sample(), ("join", "x", "q", None), "post")
        left = (WORLD[0], WORLD[1], ["u", "w"], [])
        self.leads_to(sample(("d", "d", "a"), ("u", "v")), ("leave", "v"), (
            made_stand(left, ("a", "c")), ("u",), made_stand(left, ("d", "a"))))
        self.refused(sample(), ("leave", "x"), "thing")

    def test_the_last_thing_leaves(self):
        stand = Stand(plain_map(1), Party(["u"], []), ["p0"])
        alone = Stand(plain_map(1), Party([], []), ())
        self.leads_to((stand, ("u",), stand), ("leave", "u"), (alone, (), alone))
        self.leads_to((alone, (), None), ("join", "u", "p0", ()), (stand, (), None))

    def test_never_more_than_sixteen_things(self):
        made = band(4, 1, words(4))
        for many in [15, 16, 17]:
            things = words(many, "t")
            state = gathered(made, Party(things, []), "p0"), (), gathered(made, Party(things, []), "p3")
            act = ("join", "x", "p0", ())
            self.assert_same(act_word(state, act), None if many < 16 else "many")
            self.refused(state, ("join", "x", "p0", ("t0",)), "goal")
            self.refused(state, ("join", "x", "p3", ("t0",)), "near")
            self.assertIs(act_word(state, ("leave", "t0")), None)


class SmallWorldsTest(WordsCase):
    def test_histories(self):
        found = {}
        for seed, world in enumerate(random_worlds(500, 141, 5, 4)):
            choose = random.Random(seed)
            row = choose.choice(plain.stands(*world))
            state = (made_stand(world, row), (), None)
            model = plainhouses.PlainState(world, row)
            for _ in range(30):
                act = plainhouses.random_act(choose, model)
                word = plainhouses.word(model, act)
                found[act[0], word] = True
                self.assertEqual(act_word(state, act), word, (act, model.told()))
                if word is None:
                    before = told(state)
                    behind = state_after(state, act)
                    self.assertEqual(told(state), before)
                    model = plainhouses.after(model, act)
                    self.assert_same(told(behind), model.told())
                    state = behind
                else:
                    self.assert_raises(BadAct, {"word": word}, state_after, state, act)
        wanted = [("step", "step"), ("step", "nail"), ("nail", "thing"), ("nail", "goal"), ("free", "thing"),
                  ("goal", "stand"), ("goal", "nail"), ("bond", "thing"), ("bond", "bond"), ("bond", "near"),
                  ("bond", "goal"), ("unbond", "thing"), ("unbond", "bond"), ("tie", "post"), ("tie", "tie"),
                  ("untie", "post"), ("untie", "tie"), ("untie", "near"), ("untie", "goal"), ("join", "thing"),
                  ("join", "post"), ("join", "others"), ("join", "near"), ("join", "goal"), ("leave", "thing")]
        wanted += [(word, None) for word in plainhouses.MEMBERS]
        self.assertEqual([row for row in wanted if row not in found], [])

    def test_good_acts(self):
        for world in [*random_worlds(60, 142, 5, 3), *good_worlds(30, 142, 5, 3), FORK_WORLD, RING_WORLD]:
            stands = plain.stands(*world)
            for row, there in zip(some(stands, 3, 142), [None, *some(stands, 3, 143)]):
                state = made_stand(world, row), (), None if there is None else made_stand(world, there)
                pairs = ties_of(world[0])
                acts = [(word, x, y) for word in ["tie", "untie"] for x, y in pairs]
                wanted = [act for act in acts if act_word(state, act) is None
                          and good(state_after(state, act)[0].map())]
                self.assert_same(good_acts(state), wanted)

    def test_good_acts_of_greater_maps(self):
        party = Party(["u"], [])
        for made in [ring_of_posts(10), band(10, 2, words(10)), plain_map(10), Map(words(10), ties_of(words(10)))]:
            state = gathered(made, party, "p0"), (), None
            acts = good_acts(state)
            behind = [state_after(state, act)[0].map() for act in acts]
            self.assertEqual([good(one) for one in behind], [True] * len(acts))
            self.assertEqual(len(acts), sum(
                good(state_after(state, (word, x, y))[0].map())
                for word, tied in [("tie", False), ("untie", True)] for x, y in ties_of(words(10))
                if made.is_near(x, y) == tied))
        empty = Stand(Map([], []), Party([], []), ()), (), None
        self.assert_same(good_acts(empty), [])
