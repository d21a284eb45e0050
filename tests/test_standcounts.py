"""How many stands and ways there are: S9.1, S9.3 to S9.5, S9.7 to S9.9 and the interface, crossties/standcounts.py."""

import itertools
import math
import random
from fractions import Fraction

from crossties.between import all_between, first_steps
from crossties.errors import NoRoad, NotGood, UnknownName, UnlikeMaps, UnlikeParties
from crossties.lists import Lists
from crossties.longrings import long_ring_of
from crossties.maps import Map, joined_maps
from crossties.matrices import ring_count, row_count
from crossties.ordercounts import count_orders
from crossties.parties import Party, party_part, party_pieces
from crossties.plainwalks import fewest_by_walks
from crossties.roads import all_roads
from crossties.stands import Stand, gathered
from crossties.standcounts import (
    chance_of_post, count_amid, count_stands, count_ways, count_within, farthest, mean_apart)
from crossties.steps import done
from crossties.ways import apart

from tests import plain
from tests.samples import (
    BAD_MAPS, GOOD_MAPS, KITE_WORLD, RING_WORLD, Case, all_small_maps, band, good_worlds, layered_map, long_worlds,
    made_stand, no_posts, plain_map, random_worlds, ring_of_posts, some, ties_of, unlike_stands, words)

MAP_TIES = [("a", "b"), ("a", "c"), ("b", "c"), ("c", "d")]


def sample():
    return Map(list("abcd"), MAP_TIES), Party(list("uvw"), [("u", "v"), ("v", "w")])


def made_of(world):
    posts, ties, things, bonds = world
    return Map(posts, ties), Party(things, bonds)


def as_pair(fraction):
    return fraction.numerator, fraction.denominator


def amid(world, row, there):
    """The stands amid two, by the words of S9.7."""
    far = plain.distances(world[0], world[1])
    return [h for h in plain.stands(*world) if all(
        (x, y) in far and (y, z) in far and far[x, y] + far[y, z] == far[x, z] for x, y, z in zip(row, h, there))]


def ways(world, row, there):
    """How many fewest ways there are, by going through all scripts that come nearer with each step."""
    if row == there:
        return 1
    far = plain.distances(world[0], world[1])
    many = 0
    for step in plain.steps(world, row):
        k = world[2].index(step[0])
        if far[step[1], there[k]] < far[row[k], there[k]]:
            many += ways(world, plain.after(world, row, step), there)
    return many


def with_roads(world, seed, many):
    """Some pairs of stands that have each thing with its two posts in one piece."""
    far = plain.distances(world[0], world[1])
    rows = some(itertools.product(plain.stands(*world), repeat=2), 40, seed)
    return [(row, there) for row, there in rows if all((x, y) in far for x, y in zip(row, there))][:many]


class ExampleTest(Case):
    def test_counts(self):
        made, party = sample()
        self.assert_same(count_stands(made, party), 38)
        for post, many in [("a", 10), ("b", 10), ("c", 12), ("d", 6)]:
            lists = Lists(made, [[post], made.posts(), made.posts()])
            self.assert_same(count_within(made, party, lists), many)
        ring = Party(list("uvw"), [("u", "v"), ("v", "w"), ("u", "w")])
        self.assert_same(count_stands(made, ring), 34)
        for rows, many in [("abc", 27), ("cd", 8), ("c", 1)]:
            self.assert_same(count_within(made, ring, Lists(made, [list(rows)] * 3)), many)

    def test_chances_and_means(self):
        made, party = sample()
        self.assert_same(chance_of_post(made, party, "v", "c"), (8, 19))
        self.assert_same(chance_of_post(made, party, "u", "a"), (5, 19))
        self.assert_same(mean_apart(made, party), (99, 38))

    def test_amid_and_ways(self):
        made, party = sample()
        f, g = gathered(made, party, "a"), gathered(made, party, "d")
        self.assert_same(count_amid(f, g), 17)
        self.assert_same(count_ways(f, g), 44)
        number, one, other = farthest(made, party)
        self.assertEqual((number, apart(one, other)), (6, 6))


class EmptyTest(Case):
    def test_a_party_without_things(self):
        party = Party([], [])
        for made in [Map([], []), Map(["a"], []), plain_map(3), ring_of_posts(4), *GOOD_MAPS[:3]]:
            self.assert_same(count_stands(made, party), 1)
            self.assert_same(count_within(made, party, Lists(made, [])), 1)
            self.assert_same(mean_apart(made, party), (0, 1))
            alone = Stand(made, party, ())
            self.assertEqual(farthest(made, party), (0, alone, alone))
            self.assert_same(count_amid(alone, alone), 1)
            if long_ring_of(made) is None:
                self.assert_same(count_ways(alone, alone), 1)
            self.assert_raises(UnknownName, {"name": "u"}, chance_of_post, made, party, "u", "a")

    def test_a_map_without_posts(self):
        made = Map([], [])
        for party in [Party(["u"], []), sample()[1]]:
            self.assert_same(count_stands(made, party), 0)
            self.assertIs(mean_apart(made, party), None)
            self.assertIs(farthest(made, party), None)
            for value in no_posts():
                self.assert_raises(UnknownName, {"name": value}, chance_of_post, made, party, "u", value)


class SmallWorldsTest(Case):
    def test_counts(self):
        for world in random_worlds(150, 101, 5, 4):
            made, party = made_of(world)
            self.assert_same(count_stands(made, party), len(plain.stands(*world)))
            parts = [count_stands(made, party_part(party, piece)) for piece in party_pieces(party)]
            self.assertEqual(count_stands(made, party), math.prod(parts))

    def test_counts_within(self):
        choose = random.Random(102)
        for world in random_worlds(150, 102, 5, 4):
            made, party = made_of(world)
            rows = [choose.sample(world[0], choose.randrange(1, len(world[0]) + 1)) for _ in world[2]]
            wanted = [row for row in plain.stands(*world) if all(x in xs for x, xs in zip(row, rows))]
            self.assert_same(count_within(made, party, Lists(made, rows)), len(wanted))
            self.assert_same(count_within(made, party, Lists(made, [world[0]] * len(rows))), count_stands(made, party))
            for k, row in enumerate(rows):
                parts = [count_within(made, party, Lists(made, rows[:k] + [[x]] + rows[k + 1:])) for x in row]
                self.assertEqual(sum(parts), len(wanted))

    def test_lists_of_one_post(self):
        for world in random_worlds(40, 103):
            made, party = made_of(world)
            for row in some(itertools.product(world[0], repeat=len(world[2])), 10, 103):
                many = int(plain.loose(*world, row) == [])
                self.assert_same(count_within(made, party, Lists(made, [[x] for x in row])), many)

    def test_chances(self):
        for world in random_worlds(60, 104, 5, 4):
            made, party = made_of(world)
            rows = plain.stands(*world)
            for (k, thing), post in itertools.product(enumerate(world[2]), world[0]):
                wanted = Fraction(sum(row[k] == post for row in rows), len(rows))
                self.assert_same(chance_of_post(made, party, thing, post), as_pair(wanted))

    def test_means(self):
        several = 0
        for world in random_worlds(150, 105, 5, 3):
            made, party = made_of(world)
            far = plain.distances(world[0], world[1])
            rows = plain.stands(*world)
            if world[2] and len(far) < len(world[0]) ** 2:
                self.assertIs(mean_apart(made, party), None)
                continue
            several += 1
            total = sum(far[x, y] for one, other in itertools.product(rows, repeat=2) for x, y in zip(one, other))
            self.assert_same(mean_apart(made, party), as_pair(Fraction(total, len(rows) ** 2)))
        self.assertGreater(several, 40)

    def test_amid(self):
        for world in random_worlds(80, 106, 5, 3):
            for row, there in with_roads(world, 106, 6):
                f, g = made_stand(world, row), made_stand(world, there)
                self.assert_same(count_amid(f, g), len(amid(world, row, there)))
                self.assert_same(count_amid(f, g), len(all_between(f, g)))

    def test_amid_where_no_script_leads(self):
        for many in [4, 5, 6]:
            made = ring_of_posts(many)
            ring = made.posts()
            things = words(many, "t")
            party = Party(things, list(zip(things, things[1:] + things[:1])))
            f, g = Stand(made, party, ring), Stand(made, party, ring[1:] + ring[:1])
            self.assertIs(fewest_by_walks(f, g, many + 1), None)
            self.assert_same(count_amid(f, g), len(all_between(f, g)))
        self.assert_same(count_amid(f, f), 1)

    def test_ways(self):
        several = 0
        for world in [*good_worlds(60, 107, 5, 3), *long_worlds()]:
            for row, there in with_roads(world, 107, 5):
                f, g = made_stand(world, row), made_stand(world, there)
                if apart(f, g) <= 7:
                    wanted = ways(world, row, there)
                    several += wanted > 20
                    self.assert_same(count_ways(f, g), wanted)
        self.assertGreater(several, 30)

    def test_ways_from_a_stand_to_itself(self):
        for world in good_worlds(30, 108):
            for row in some(plain.stands(*world), 3, 108):
                self.assert_same(count_ways(made_stand(world, row), made_stand(world, row)), 1)
                self.assert_same(count_amid(made_stand(world, row), made_stand(world, row)), 1)

    def test_ways_are_those_that_begin_so(self):
        for world in long_worlds():
            for row, there in with_roads(world, 109, 3):
                f, g = made_stand(world, row), made_stand(world, there)
                if row != there:
                    parts = [count_ways(done(f, step), g) for step in first_steps(f, g)]
                    self.assert_same(count_ways(f, g), sum(parts))

    def test_ways_are_the_orders_of_all_roads(self):
        for world in long_worlds()[:30:2]:
            for row, there in with_roads(world, 110, 2):
                f, g = made_stand(world, row), made_stand(world, there)
                if apart(f, g) <= 8:
                    choices = [all_roads(f.map(), x, y) for x, y in zip(row, there)]
                    total = sum(count_orders(f, g, roads) for roads in itertools.product(*choices))
                    self.assert_same(count_ways(f, g), total)

    def test_farthest(self):
        for world in random_worlds(100, 111, 5, 3):
            made, party = made_of(world)
            far = plain.distances(world[0], world[1])
            wanted = max(sum(far[x, y] for x, y in zip(one, other))
                         for one, other in itertools.product(plain.stands(*world), repeat=2)
                         if all((x, y) in far for x, y in zip(one, other)))
            value = farthest(made, party)
            self.assertIs(type(value), tuple)
            number, f, g = value
            self.assert_same(number, wanted)
            self.assertEqual((f.map(), f.party(), g.map(), g.party()), (made, party) * 2)
            self.assertEqual(apart(f, g), number)


class LimitsTest(Case):
    def test_row_and_ring_parties(self):
        for made in [*GOOD_MAPS[::5], BAD_MAPS[0], BAD_MAPS[5]]:
            for many in [1, 2, 16]:
                things = words(many, "t")
                row = list(zip(things, things[1:]))
                self.assert_same(count_stands(made, Party(things, row)), row_count(made, many))
                if many > 2:
                    ring = Party(things, row + [(things[0], things[-1])])
                    self.assert_same(count_stands(made, ring), ring_count(made, many))

    def test_things_without_bonds(self):
        for many in [1, 16]:
            made = plain_map(many)
            self.assert_same(count_stands(made, Party(words(16, "t"), [])), many ** 16)
            self.assert_same(chance_of_post(made, Party(words(16, "t"), []), "t7", "p0"), (1, many))

    def test_three_waiting_things_on_sixteen_posts(self):
        things = words(16, "t")
        party = Party(things, [(things[i], things[j]) for i in range(16) for j in range(i + 1, min(16, i + 4))])
        whole = Map(words(16), ties_of(words(16)))
        self.assert_same(count_stands(whole, party), 16 ** 16)
        self.assert_same(count_stands(plain_map(16), party), 16)
        halves = joined_maps(Map(words(8), ties_of(words(8))), Map(words(8, "q"), ties_of(words(8, "q"))))
        self.assert_same(count_stands(halves, party), 2 * 8 ** 16)

    def test_twelve_waiting_things_on_two_posts(self):
        things = words(16, "t")
        party = Party(things, [(one, other) for one in things[:12] for other in things[12:]])
        # On two posts that are not tied, bonded things are at the same one; here all things hang together.
        self.assert_same(count_stands(plain_map(2), party), 2)
        self.assert_same(count_stands(Map(["a", "b"], [("a", "b")]), party), 2 ** 16)
        # On a row of three posts things at both ends keep those bonded to them in the middle.
        lists = Lists(band(3, 1, list("abc")), [["a", "c"]] * 12 + [["a", "b", "c"]] * 4)
        self.assert_same(count_within(band(3, 1, list("abc")), party, lists), 2 ** 12 - 2 + 2 * 2 ** 4)

    def test_things_in_the_middle_of_stars(self):
        """The things that are bonded to one thing stand each for itself near its post."""
        made = band(16, 2, words(16))
        things = words(16, "t")
        for star in [Party(things, [("t0", thing) for thing in things[1:]]),
                     Party(things, [("t15", thing) for thing in things[:2]])]:
            leaves = len(star.bonds())
            alone = 16 ** (15 - leaves)
            wanted = sum(len(made.near(x)) ** leaves for x in made.posts()) * alone
            self.assert_same(count_stands(made, star), wanted)

    def test_means_and_chances_of_many_things(self):
        things = words(16, "t")
        for made, mean in [(band(16, 1, words(16)), None), (Map(words(16), ties_of(words(16))), Fraction(15))]:
            party = Party(things, list(zip(things, things[1:])))
            chances = [[Fraction(*chance_of_post(made, party, thing, x)) for x in made.posts()] for thing in things[::5]]
            self.assertEqual([sum(row) for row in chances], [1] * 4)
            found = mean_apart(made, party)
            if mean is not None:
                self.assert_same(found, as_pair(mean))
            self.assertEqual(math.gcd(*found), 1)

    def test_the_mean_from_chances(self):
        made = band(16, 3, words(16))
        things = words(6, "t")
        party = Party(things, list(zip(things, things[2:])))
        far = plain.distances(made.posts(), made.ties())
        total = 0
        for thing in things:
            row = {x: Fraction(*chance_of_post(made, party, thing, x)) for x in made.posts()}
            total += sum(row[x] * row[y] * far[x, y] for x in row for y in row)
        self.assert_same(mean_apart(made, party), as_pair(total))

    def test_many_ways(self):
        for many in [3, 4]:
            made = band(5, 1, words(5))
            party = Party(words(many, "t"), [])
            f, g = gathered(made, party, "p0"), gathered(made, party, "p4")
            self.assert_same(count_ways(f, g), math.factorial(4 * many) // math.factorial(4) ** many)
        made, layers = layered_map([1, 4, 4, 1])
        party = Party(["u"], [])
        f, g = gathered(made, party, layers[0][0]), gathered(made, party, layers[-1][0])
        self.assert_raises(NotGood, {"ring": long_ring_of(made)}, count_ways, f, g)
        self.assert_same(count_amid(f, g), 10)

    def test_ways_of_sixty_steps(self):
        made = band(16, 1, words(16))
        things = words(4, "t")
        party = Party(things, ties_of(things))
        f, g = gathered(made, party, "p0"), gathered(made, party, "p15")
        # All things are bonded, so all come to a post before any goes on.
        self.assert_same(count_ways(f, g), math.factorial(4) ** 15)
        self.assert_same(count_amid(f, g), 15 * (2 ** 4 - 1) + 1)


class ErrorsTest(Case):
    def test_things_and_posts(self):
        made, party = sample()
        for value in no_posts():
            for post in ["a", "q", None, ["a"]]:
                self.assert_raises(UnknownName, {"name": value}, chance_of_post, made, party, value, post)
            self.assert_raises(UnknownName, {"name": value}, chance_of_post, made, party, "u", value)
        self.assert_raises(UnknownName, {"name": "a"}, chance_of_post, made, party, "a", "u")
        self.assert_raises(UnknownName, {"name": "u"}, chance_of_post, made, party, "u", "u")

    def test_unlike_maps_come_first_then_unlike_parties(self):
        for world, row in [(KITE_WORLD, ("a", "b", "b")), (RING_WORLD, tuple("abcd"))]:
            f = made_stand(world, row)
            maps, parties = unlike_stands(world, row)
            for call in [count_amid, count_ways]:
                for other in maps:
                    self.assert_raises(UnlikeMaps, {}, call, f, other)
                    self.assert_raises(UnlikeMaps, {}, call, other, f)
                for other in parties:
                    self.assert_raises(UnlikeParties, {}, call, f, other)
                    self.assert_raises(UnlikeParties, {}, call, other, f)

    def test_things_without_a_road(self):
        made = Map(list("abcd"), [("a", "b"), ("c", "d")])
        party = Party(["w", "v", "u"], [])
        f = Stand(made, party, ["a", "a", "c"])
        for row, thing in [(("b", "c", "a"), "v"), (("c", "b", "b"), "w"), (("b", "b", "b"), "u")]:
            for call in [count_amid, count_ways]:
                self.assert_raises(NoRoad, {"thing": thing}, call, f, Stand(made, party, row))
        number, one, other = farthest(made, party)
        self.assertEqual((number, apart(one, other)), (3, 3))

    def test_a_long_ring_comes_ahead_of_roads_for_ways_alone(self):
        made = joined_maps(ring_of_posts(4), Map(["x", "y"], []))
        party = Party(["v", "u"], [])
        f, g = Stand(made, party, ["p0", "x"]), Stand(made, party, ["p2", "y"])
        self.assert_raises(NotGood, {"ring": long_ring_of(made)}, count_ways, f, g)
        self.assert_raises(NotGood, {"ring": long_ring_of(made)}, count_ways, f, f)
        self.assert_raises(NoRoad, {"thing": "u"}, count_amid, f, g)
        self.assert_same(count_amid(f, Stand(made, party, ["p2", "x"])), 4)

    def test_several_pieces_have_no_mean(self):
        for posts, ties in all_small_maps(3):
            made = Map(posts, ties)
            whole = len(plain.distances(posts, ties)) == len(posts) ** 2 and posts != []
            self.assertIs(mean_apart(made, Party(["u"], [])) is None, not whole)
