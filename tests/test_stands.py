"""Stands: S4.3, S4.4, S4.5, S4.7 and the interface, crossties/stands.py."""

import itertools

from crossties.errors import BadStand, UnknownName
from crossties.maps import Map
from crossties.parties import Party
from crossties.stands import Stand, gathered, loose_bonds, moved

from tests import plain
from tests.samples import (
    LINE_WORLD, Case, all_maps, band, made_stand, no_lists, no_posts, plain_map, random_worlds, ring_of_posts, some,
    ties_of, words)

START = ("one", "two", "three")


def line():
    return made_stand(LINE_WORLD, START)


def parts(world):
    posts, ties, things, bonds = world
    return Map(posts, ties), Party(things, bonds)


class ExampleTest(Case):
    def test_what_is_told(self):
        made, party = parts(LINE_WORLD)
        stand = Stand(made, party, list(START))
        self.assertIs(stand.map(), made)
        self.assertIs(stand.party(), party)
        self.assert_same(stand.posts(), START)
        self.assert_same([stand.post(thing) for thing in ["log", "api", "web"]], ["three", "one", "two"])
        self.assert_same([stand.things_at(post) for post in LINE_WORLD[0]], [["api"], ["web"], ["log"], []])

    def test_loose_bonds(self):
        made, party = parts(LINE_WORLD)
        self.assert_raises(BadStand, {"path": (1, 2)}, Stand, made, party, ["one", "two", "four"])
        self.assert_same(loose_bonds(made, party, ["one", "two", "four"]), [("web", "log")])
        self.assert_same(loose_bonds(made, party, ["one", "three", "one"]), [("api", "web"), ("web", "log")])
        self.assert_same(loose_bonds(made, party, START), [])

    def test_things_that_go(self):
        self.assert_raises(BadStand, {"path": (1, 2)}, moved, line(), "web", "one")
        self.assert_same(moved(line(), "log", "two").posts(), ("one", "two", "two"))
        self.assert_same(moved(line(), "log", "two").things_at("two"), ["web", "log"])
        self.assert_same(made_stand(LINE_WORLD, ("three", "two", "one")).posts(), ("three", "two", "one"))
        self.assertIs(made_stand(LINE_WORLD, ("three", "two", "one")) == line(), False)


class EmptyTest(Case):
    def test_no_things(self):
        for made in [Map([], []), plain_map(3), ring_of_posts(5)]:
            party = Party([], [])
            for posts in [(), []]:
                stand = Stand(made, party, posts)
                self.assert_same(stand.posts(), ())
                self.assert_same([stand.things_at(post) for post in made.posts()], [[] for _ in made.posts()])
            self.assert_same(loose_bonds(made, party, []), [])
            self.assert_raises(BadStand, {"path": ()}, Stand, made, party, ["p0"])
            for post in made.posts():
                self.assert_same(gathered(made, party, post).posts(), ())
        for value in no_posts() + ["a"]:
            self.assert_raises(UnknownName, {"name": value}, gathered, Map([], []), Party([], []), value)

    def test_things_on_a_map_without_posts(self):
        for posts, path in [((), ()), (["a"], (0,)), ([None], (0,)), (["a", "a"], ())]:
            self.assert_raises(BadStand, {"path": path}, Stand, Map([], []), Party(["a"], []), posts)
            self.assert_raises(UnknownName, {"name": "a"}, gathered, Map([], []), Party(["a"], []), "a")

    def test_no_bonds(self):
        made = plain_map(3)
        party = Party(["u", "v"], [])
        for posts in itertools.product(made.posts(), repeat=2):
            self.assert_same(Stand(made, party, posts).posts(), posts)
            self.assert_same(loose_bonds(made, party, posts), [])


class GatheredTest(Case):
    def test_all_things_at_one_post_whatever_the_bonds_are(self):
        posts = words(16)
        things = words(16, "t")
        for made in [plain_map(16), ring_of_posts(16), band(16, 3, posts)]:
            for bonds in [[], ties_of(things)]:
                stand = gathered(made, Party(things, bonds), "p7")
                self.assert_same(stand.posts(), ("p7",) * 16)
                self.assert_same(stand.things_at("p7"), things)
                self.assert_same(stand.things_at("p6"), [])
                self.assertIs(Stand(made, Party(things, bonds), ["p7"] * 16) == stand, True)

    def test_sixteen_things_on_sixteen_posts(self):
        made = ring_of_posts(16)
        things = words(16, "t")
        party = Party(things, list(zip(things, things[1:] + things[:1])))
        stand = Stand(made, party, made.posts())
        self.assert_same(stand.posts(), tuple(made.posts()))
        self.assert_same([stand.things_at(post) for post in made.posts()], [[thing] for thing in things])
        self.assert_raises(BadStand, {"path": (0, 1)}, moved, stand, "t1", "p2")
        self.assert_raises(BadStand, {"path": (0, 15)}, moved, stand, "t0", "p1")
        self.assert_same(moved(stand, "t1", "p1").posts(), tuple(made.posts()))


class SmallWorldsTest(Case):
    def test_every_tuple_of_posts(self):
        for world in random_worlds(60, 1, 4, 3):
            made, party = parts(world)
            stands = plain.stands(*world)
            for row in itertools.product(world[0], repeat=len(world[2])):
                loose = plain.loose(*world, row)
                self.assert_same(loose_bonds(made, party, list(row)), loose)
                self.assertEqual(row in stands, loose == [])
                if loose:
                    u, v = loose[0]
                    path = (party.number(u), party.number(v))
                    self.assert_raises(BadStand, {"path": path}, Stand, made, party, row)
                else:
                    stand = Stand(made, party, row)
                    self.assert_same(stand.posts(), row)
                    for x in world[0]:
                        wanted = [thing for thing, post in zip(world[2], row) if post == x]
                        self.assert_same(stand.things_at(x), wanted)

    def test_every_thing_to_every_post(self):
        for world in random_worlds(40, 2, 4, 3):
            for row in some(plain.stands(*world), 6, 2):
                stand = made_stand(world, row)
                for thing, post in itertools.product(world[2], world[0]):
                    there = plain.after(world, row, (thing, post))
                    loose = plain.loose(*world, there)
                    if loose:
                        path = tuple(world[2].index(u) for u in loose[0])
                        self.assert_raises(BadStand, {"path": path}, moved, stand, thing, post)
                    else:
                        self.assert_same(moved(stand, thing, post).posts(), there)
                self.assert_same(stand.posts(), row)

    def test_bonds_told_the_other_way_round(self):
        for things, bonds in all_maps("wuv"):
            made = Map(["a", "b", "c"], [("a", "b")])
            party = Party(things, [(y, x) for x, y in bonds[::-1]])
            for row in itertools.product("abc", repeat=3):
                world = (["a", "b", "c"], [("a", "b")], things, bonds)
                self.assert_same(loose_bonds(made, party, row), plain.loose(*world, row))


class EqualTest(Case):
    def test_equal_and_not(self):
        posts, ties, things, bonds = LINE_WORLD
        self.assertIs(line() == made_stand((tuple(posts), ties[::-1], things, [("log", "web"), bonds[0]]), START), True)
        self.assertIs(line() != line(), False)
        others = [
            made_stand(LINE_WORLD, START[::-1]), made_stand((posts, ties, things, []), START),
            made_stand((posts, ties[:2], things, bonds), START), made_stand((posts + ["five"], ties, things, bonds), START),
            made_stand((posts[::-1], ties, things, bonds), START),
            made_stand((posts, ties, ["a", "web", "log"], [("a", "web"), ("web", "log")]), START),
            made_stand((posts, ties, ["api", "log", "web"], bonds), ("one", "three", "two")),
            made_stand((posts, ties, [], []), ())]
        for other in others + no_posts() + [START, list(START), *parts(LINE_WORLD)]:
            self.assertIs(line() == other, False)
            self.assertIs(other == line(), False)
            self.assertIs(line() != other, True)


class BadStandTest(Case):
    def test_no_list_of_as_many_members(self):
        made, party = parts(LINE_WORLD)
        for value in no_lists() + ["abc", [], (), START[:2], START + ("three",), [START], (START,), [*START, None]]:
            self.assert_raises(BadStand, {"path": ()}, Stand, made, party, value)

    def test_members_that_are_no_posts(self):
        made, party = parts(LINE_WORLD)
        for k, value in itertools.product(range(3), no_posts() + ["api", "five"]):
            changed = START[:k] + (value,) + START[k + 1:]
            self.assert_raises(BadStand, {"path": (k,)}, Stand, made, party, changed)
            self.assert_raises(BadStand, {"path": (k,)}, Stand, made, party, list(changed[:k + 1]) + [[]] * (2 - k))
            # A post that is none comes ahead of a loose bond.
            self.assert_raises(BadStand, {"path": (2,)}, Stand, made, party, ["one", "four", value])

    def test_the_first_loose_bond_in_order(self):
        posts = words(4)
        party = Party(["c", "a", "b"], [("b", "a"), ("b", "c"), ("a", "c")])
        for row, path in [
                (("p0", "p1", "p1"), (0, 1)), (("p0", "p0", "p1"), (0, 2)), (("p0", "p1", "p0"), (0, 1)),
                (("p2", "p1", "p3"), (0, 1))]:
            self.assert_raises(BadStand, {"path": path}, Stand, plain_map(4), party, row)
        row = Map(posts, [("p0", "p1"), ("p0", "p2")])
        self.assert_raises(BadStand, {"path": (1, 2)}, Stand, row, party, ["p0", "p1", "p2"])


class UnknownNameTest(Case):
    def test_one_name(self):
        for value in no_posts() + ["a", "five"]:
            self.assert_raises(UnknownName, {"name": value}, line().post, value)
            self.assert_raises(UnknownName, {"name": value}, line().things_at, value)
            self.assert_raises(UnknownName, {"name": value}, gathered, *parts(LINE_WORLD), value)
        self.assert_raises(UnknownName, {"name": "one"}, line().post, "one")
        self.assert_raises(UnknownName, {"name": "api"}, line().things_at, "api")

    def test_two_names(self):
        for value in no_posts():
            self.assert_raises(UnknownName, {"name": value}, moved, line(), value, "one")
            self.assert_raises(UnknownName, {"name": value}, moved, line(), value, "zz")
            self.assert_raises(UnknownName, {"name": value}, moved, line(), "web", value)
            self.assert_raises(UnknownName, {"name": "one"}, moved, line(), "one", value)
        self.assert_raises(UnknownName, {"name": "web"}, moved, line(), "web", "web")
