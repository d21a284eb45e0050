"""The numbers of stands: S9.6, S9.4, S9.9 and the interface, crossties/standnumbers.py."""

import itertools
import random

from crossties.errors import TooGreat
from crossties.lists import Lists
from crossties.maps import Map
from crossties.parties import Party
from crossties.stands import Stand, gathered
from crossties.standcounts import count_stands, count_within
from crossties.standnumbers import (
    drawn_stand, next_stand, number_within, stand_at, stand_number, stand_within_at, stands_from)

from tests import plain
from tests.samples import BAD_MAPS, GOOD_MAPS, Case, band, made_stand, plain_map, random_worlds, ties_of, words


def sample():
    return Map(list("abcd"), [("a", "b"), ("a", "c"), ("b", "c"), ("c", "d")]), Party(
        list("uvw"), [("u", "v"), ("v", "w")])


def made_of(world):
    posts, ties, things, bonds = world
    return Map(posts, ties), Party(things, bonds)


class NumbersCase(Case):
    def is_stand(self, value, made, party, row):
        self.assertIs(type(value), Stand)
        self.assertEqual(value, Stand(made, party, row))


class ExampleTest(NumbersCase):
    def test_the_number_of_a_stand(self):
        made, party = sample()
        stand = Stand(made, party, ("c", "d", "c"))
        self.assert_same(stand_number(stand), 30)
        self.is_stand(stand_at(made, party, 30), made, party, ("c", "d", "c"))
        self.is_stand(stand_at(made, party, 0), made, party, ("a", "a", "a"))
        self.is_stand(stand_at(made, party, 37), made, party, ("d", "d", "d"))
        self.is_stand(next_stand(stand), made, party, ("c", "d", "d"))
        self.assertIs(next_stand(stand_at(made, party, 37)), None)
        for number in [38, 39, 10 ** 60]:
            self.assert_raises(TooGreat, {}, stand_at, made, party, number)

    def test_stands_from_a_number(self):
        made, party = sample()
        self.assertEqual(stands_from(made, party), [stand_at(made, party, n) for n in range(10)])
        self.assertEqual(stands_from(made, party, number=30, many=3), [stand_at(made, party, n) for n in range(30, 33)])
        self.assertEqual(stands_from(made, party, many=50), [stand_at(made, party, n) for n in range(38)])
        self.assertEqual(stands_from(made, party, number=36), [stand_at(made, party, n) for n in (36, 37)])
        for more in [{"number": 38}, {"number": 10 ** 60, "many": 50}, {"many": 0}, {"number": 5, "many": 0}]:
            self.assert_same(stands_from(made, party, **more), [])

    def test_drawn_stands(self):
        made, party = sample()
        for number in [0, 30, 37, 38, 10 ** 59 + 7, 10 ** 60 - 1]:
            self.assertEqual(drawn_stand(made, party, number), stand_at(made, party, number % 38))


class EmptyTest(NumbersCase):
    def test_a_party_without_things(self):
        party = Party([], [])
        for made in [Map([], []), plain_map(3), *GOOD_MAPS[:2], BAD_MAPS[0]]:
            alone = Stand(made, party, ())
            lists = Lists(made, [])
            self.assertEqual(stand_at(made, party, 0), alone)
            self.assertEqual(stand_within_at(made, party, lists, 0), alone)
            self.assert_same(stand_number(alone), 0)
            self.assert_same(number_within(alone, lists), 0)
            self.assertIs(next_stand(alone), None)
            self.assertEqual(stands_from(made, party), [alone])
            self.assertEqual(stands_from(made, party, number=1), [])
            for number in [0, 1, 10 ** 59]:
                self.assertEqual(drawn_stand(made, party, number), alone)
            self.assert_raises(TooGreat, {}, stand_at, made, party, 1)
            self.assert_raises(TooGreat, {}, stand_within_at, made, party, lists, 1)

    def test_no_stand_at_all(self):
        made, party = Map([], []), sample()[1]
        for number in [0, 1, 10 ** 59]:
            self.assert_raises(TooGreat, {}, stand_at, made, party, number)
            self.assertIs(drawn_stand(made, party, number), None)
            self.assert_same(stands_from(made, party, number=number), [])

    def test_no_stand_within(self):
        made, party = sample()
        lists = Lists(made, [["a", "b"], ["d"], ["c", "d"]])
        self.assert_same(count_within(made, party, lists), 0)
        for number in [0, 1]:
            self.assert_raises(TooGreat, {}, stand_within_at, made, party, lists, number)
        for stand in stands_from(made, party, many=50):
            self.assertIs(number_within(stand, lists), None)


class SmallWorldsTest(NumbersCase):
    def test_all_stands(self):
        for world in random_worlds(80, 121, 4, 3):
            made, party = made_of(world)
            rows = plain.in_order(world, plain.stands(*world))
            for number, row in enumerate(rows):
                stand = made_stand(world, row)
                self.is_stand(stand_at(made, party, number), made, party, row)
                self.assert_same(stand_number(stand), number)
                self.is_stand(drawn_stand(made, party, number + 7 * len(rows)), made, party, row)
                following = next_stand(stand)
                if number + 1 < len(rows):
                    self.is_stand(following, made, party, rows[number + 1])
                else:
                    self.assertIs(following, None)
            self.assert_raises(TooGreat, {}, stand_at, made, party, len(rows))

    def test_stands_from_a_number(self):
        for world in random_worlds(30, 122, 4, 3):
            made, party = made_of(world)
            rows = plain.in_order(world, plain.stands(*world))
            for number, many in [(0, 10), (1, 3), (len(rows) // 2, 50), (len(rows) - 1, 2), (len(rows), 5), (3, 0)]:
                found = stands_from(made, party, number=number, many=many)
                self.assertIs(type(found), list)
                self.assert_same([stand.posts() for stand in found], rows[number:number + many])
            self.assertEqual(stands_from(made, party, many=50, number=2), stands_from(made, party, number=2, many=50))

    def test_stands_within(self):
        choose = random.Random(123)
        empty = 0
        for world in random_worlds(120, 123, 4, 4):
            made, party = made_of(world)
            rows = [choose.sample(world[0], choose.randrange(1, len(world[0]) + 1)) for _ in world[2]]
            lists = Lists(made, rows)
            inner = [row for row in plain.in_order(world, plain.stands(*world))
                     if all(x in xs for x, xs in zip(row, rows))]
            empty += inner == []
            for number, row in enumerate(inner):
                self.is_stand(stand_within_at(made, party, lists, number), made, party, row)
                self.assert_same(number_within(made_stand(world, row), lists), number)
            self.assert_raises(TooGreat, {}, stand_within_at, made, party, lists, len(inner))
            self.assert_raises(TooGreat, {}, stand_within_at, made, party, lists, 10 ** 60)
            for row in plain.stands(*world):
                if row not in inner:
                    self.assertIs(number_within(made_stand(world, row), lists), None)
        self.assertGreater(empty, 3)

    def test_lists_of_all_posts_and_of_one(self):
        for world in random_worlds(30, 124, 4, 3):
            made, party = made_of(world)
            whole = Lists(made, [world[0][::-1]] * len(world[2]))
            for number, stand in enumerate(stands_from(made, party, many=20)):
                self.assertEqual(stand_within_at(made, party, whole, number), stand)
                self.assert_same(number_within(stand, whole), number)
                alone = Lists(made, [[x] for x in stand.posts()])
                self.assertEqual(stand_within_at(made, party, alone, 0), stand)
                self.assert_same(number_within(stand, alone), 0)


class LimitsTest(NumbersCase):
    def test_many_stands(self):
        things = words(16, "t")
        parties = [Party(things, list(zip(things, things[1:]))), Party(things, []),
                   Party(things, list(zip(things, things[2:]))), Party(things, [("t3", thing) for thing in things[4:]])]
        for made, party in itertools.product([band(16, 2, words(16)), BAD_MAPS[4]], parties):
            total = count_stands(made, party)
            for number in [0, 1, total // 7, total // 2, total - 2, total - 1]:
                stand = stand_at(made, party, number)
                self.assert_same(stand_number(stand), number)
                self.assertEqual(drawn_stand(made, party, number + total * 10 ** 20), stand)
                wanted = stand_at(made, party, number + 1) if number + 1 < total else None
                self.assertEqual(next_stand(stand), wanted)
            rows = stands_from(made, party, number=total - 30, many=50)
            self.assertEqual([stand_number(stand) for stand in rows[::6]], list(range(total - 30, total, 6)))
            self.assertEqual(len(rows), 30)
            self.assert_raises(TooGreat, {}, stand_at, made, party, total)

    def test_numbers_by_figures(self):
        """Without bonds, and where all posts are near, the posts are the figures of the number."""
        things = words(16, "t")
        for made, party in [(plain_map(16), Party(things, [])), (plain_map(10), Party(things, [])),
                            (Map(words(7), ties_of(words(7))), Party(things[:10], list(zip(things, things[1:10]))))]:
            posts = made.posts()
            for number in [0, 1, 12345678901, 7 ** 10 - 1]:
                number = number % count_stands(made, party)
                figures = [number // len(posts) ** k % len(posts) for k in range(len(party.things()))][::-1]
                self.assert_same(stand_at(made, party, number).posts(), tuple(posts[k] for k in figures))
                self.assert_same(stand_number(stand_at(made, party, number)), number)

    def test_within_lists_of_many_things(self):
        made = band(16, 2, words(16))
        things = words(16, "t")
        party = Party(things, list(zip(things, things[1:])))
        lists = Lists(made, [words(16)[k:k + 5] or words(16) for k in range(12)] + [words(16)[8:]] * 4)
        total = count_within(made, party, lists)
        for number in [0, 1, total // 3, total - 1]:
            stand = stand_within_at(made, party, lists, number)
            self.assert_same(number_within(stand, lists), number)
        self.assert_raises(TooGreat, {}, stand_within_at, made, party, lists, total)
        self.assertIs(number_within(gathered(made, party, "p0"), lists), None)
