"""Steps: S5.1, S5.2, S5.7 and the interface, crossties/steps.py."""

import itertools

from crossties.errors import BadStep, UnknownName
from crossties.maps import Map, with_tie
from crossties.parties import Party
from crossties.stands import Stand, gathered
from crossties.steps import all_steps, done, is_step, is_stuck, step_back, steps_of

from tests import plain
from tests.samples import (
    FORK_WORLD, LINE_WORLD, RING_WORLD, Case, band, made_stand, no_posts, plain_map, random_worlds, ring_of_posts, some,
    ties_of, words)


def fork():
    return made_stand(FORK_WORLD, ("a", "b"))


class ExampleTest(Case):
    def test_two_steps_can_be_done(self):
        self.assert_same(all_steps(fork()), [("u", "b"), ("v", "a")])
        self.assert_same(steps_of(fork(), "u"), [("u", "b")])
        self.assert_same(steps_of(fork(), "v"), [("v", "a")])
        self.assertIs(is_stuck(fork()), False)
        for step in [("v", "c"), ("u", "c"), ("u", "a"), ("v", "b"), ("u", "d")]:
            self.assertIs(is_step(fork(), step), False)

    def test_doing_and_taking_back(self):
        there = done(fork(), ("u", "b"))
        self.assert_same(there.posts(), ("b", "b"))
        self.assert_same(step_back(fork(), ("u", "b")), ("u", "a"))
        self.assertIs(done(there, ("u", "a")) == fork(), True)
        self.assertIs(there.map() == fork().map() and there.party() == fork().party(), True)

    def test_near_posts_of_bonded_things(self):
        line = made_stand(LINE_WORLD, ("one", "two", "three"))
        self.assert_same(all_steps(line), [("api", "two"), ("log", "two")])


class StuckTest(Case):
    def test_the_example(self):
        stand = made_stand(RING_WORLD, tuple("abcd"))
        self.assertIs(is_stuck(stand), True)
        self.assert_same(all_steps(stand), [])
        for thing in "rstu":
            self.assert_same(steps_of(stand, thing), [])
        for step in itertools.product("rstu", "abcd"):
            self.assertIs(is_step(stand, step), False)
            self.assert_raises(BadStep, {"number": 0}, done, stand, step)
        self.assertIs(is_stuck(made_stand(RING_WORLD, tuple("aaaa"))), False)

    def test_long_rings_with_as_many_things_bonded_round(self):
        for many in range(4, 17):
            made = ring_of_posts(many)
            things = words(many, "t")
            bonds = list(zip(things, things[1:] + things[:1]))
            stand = Stand(made, Party(things, bonds), made.posts())
            self.assertIs(is_stuck(stand), True)
            for k in range(many):
                turned = Stand(made, stand.party(), made.posts()[k:] + made.posts()[:k])
                self.assertIs(is_stuck(turned), True)
            self.assertIs(is_stuck(Stand(made, Party(things, bonds[1:]), made.posts())), False)
            crossed = Stand(with_tie(made, "p0", "p2"), stand.party(), made.posts())
            self.assertIs(is_stuck(crossed), False)
            steps = [("t1", "p0"), ("t1", "p2")]
            if many == 4:
                steps = [("t0", "p2"), *steps, ("t2", "p0"), ("t3", "p0"), ("t3", "p2")]
            self.assert_same(all_steps(crossed), steps)

    def test_no_things_and_no_ties(self):
        for made in [Map([], []), plain_map(3), ring_of_posts(4)]:
            stand = Stand(made, Party([], []), ())
            self.assertIs(is_stuck(stand), True)
            self.assert_same(all_steps(stand), [])
        stand = gathered(plain_map(4), Party(["u", "v"], []), "p2")
        self.assertIs(is_stuck(stand), True)
        self.assert_same(steps_of(stand, "v"), [])


class SmallWorldsTest(Case):
    def test_every_step(self):
        for world in random_worlds(150, 11):
            for row in some(plain.stands(*world), 5, 11):
                stand = made_stand(world, row)
                steps = plain.steps(world, row)
                self.assert_same(all_steps(stand), steps)
                self.assert_same(is_stuck(stand), steps == [])
                for thing in world[2]:
                    self.assert_same(steps_of(stand, thing), [step for step in steps if step[0] == thing])
                for step in itertools.product(world[2], world[0]):
                    self.agree(world, row, stand, step, step in steps)
                self.assert_same(stand.posts(), row)

    def agree(self, world, row, stand, step, wanted):
        self.assert_same(is_step(stand, step), wanted)
        if wanted:
            there = done(stand, step)
            self.assert_same(there.posts(), plain.after(world, row, step))
            back = step_back(stand, step)
            self.assert_same(back, (step[0], row[world[2].index(step[0])]))
            self.assertIs(is_step(there, back), True)
            self.assertIs(done(there, back) == stand, True)
        else:
            self.assert_raises(BadStep, {"number": 0}, done, stand, step)
            self.assert_raises(BadStep, {"number": 0}, step_back, stand, step)

    def test_sixteen_things_on_sixteen_posts(self):
        made = band(16, 2, words(16))
        things = words(16, "t")
        stand = gathered(made, Party(things, ties_of(things)), "p9")
        self.assert_same(all_steps(stand), [(thing, x) for thing in things for x in ["p7", "p8", "p10", "p11"]])
        there = done(stand, ("t3", "p10"))
        self.assert_same(steps_of(there, "t3"), [("t3", x) for x in ["p8", "p9", "p11"]])
        self.assert_same(steps_of(there, "t4"), [("t4", x) for x in ["p8", "p10", "p11"]])


class WrongValuesTest(Case):
    def test_values_of_all_kinds(self):
        wrong = no_posts() + [
            ["u", "b"], ("u",), ("u", "b", "b"), (("u", "b"),), [("u", "b")], ("b", "u"), {"u": "b"}, "ub", ("U", "b")]
        for value in wrong:
            self.assertIs(is_step(fork(), value), False)
            self.assert_raises(BadStep, {"number": 0}, done, fork(), value)
            self.assert_raises(BadStep, {"number": 0}, step_back, fork(), value)

    def test_members_of_all_kinds(self):
        for value in no_posts() + ["a"]:
            for step in [(value, "b"), ("u", value), (value, value)]:
                self.assertIs(is_step(fork(), step), False)
                self.assert_raises(BadStep, {"number": 0}, done, fork(), step)
                self.assert_raises(BadStep, {"number": 0}, step_back, fork(), step)

    def test_unknown_things(self):
        for value in no_posts() + ["a", "b", ("u",)]:
            self.assert_raises(UnknownName, {"name": value}, steps_of, fork(), value)
            self.assert_raises(UnknownName, {"name": value}, steps_of, Stand(Map([], []), Party([], []), ()), value)
