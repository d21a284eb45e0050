"""What several tests need: values of all kinds, small maps, and a strict check of errors."""

import itertools
import random
import unittest

from crossties.console import Console
from crossties.house import House
from crossties.lists import Lists
from crossties.maps import Map
from crossties.parties import Party
from crossties.stands import Stand

from tests import plain

POSTS = ["a", "b", "c", "d", "e"]
TIES = [("b", "a"), ("b", "c"), ("d", "c"), ("b", "d")]


def example():
    """The map M of part 1 of the document."""
    return Map(POSTS, TIES)


def deep(inner, depth=40):
    for _ in range(depth // 2):
        inner = ([inner],)
    return inner


def no_posts():
    """Values of all kinds, none of which is a post of a map with the posts a, b, c, d and e."""
    return [
        0, 1, -1, 10 ** 39, -(10 ** 39), True, False, None,
        "", " ", "A", "Ab", "1a", "0", "a ", " a", "\n", "\t", "a\n", "a\tb", "a-b", "a_b", "_a", "~", "ab,", "zz",
        "a" * 12, "a" * 13, "a" * 20000,
        (), ("a",), ("a", "b"), ["a"], [], [["a"]], {}, {"a": "b"}, {"a": ["a"]}, {1: ("a",)},
        Map([], []), example(), [example()], (example(), "a"), {"a": example()}, deep("a"), deep([]),
        Lists(example(), [["a"]]), Party([], []), Party(["a"], []), Stand(Map([], []), Party([], []), []),
        Stand(example(), Party(["a"], []), ["a"]), [Stand(example(), Party([], []), ())],
        House(Stand(example(), Party(["a"], []), ["a"])), Console(House(Stand(Map([], []), Party([], []), []))),
    ]


def no_words():
    """Values of all kinds, none of which is a word."""
    return [value for value in no_posts() if value not in ("zz", "a" * 12)]


def no_lists():
    """Values of all kinds, none of which is a list or a tuple."""
    return [value for value in no_posts() if not isinstance(value, (list, tuple))]


def ties_of(posts):
    return list(itertools.combinations(posts, 2))


def all_maps(posts):
    """All maps with these posts, as pairs of the posts and a list of the ties in order."""
    pairs = ties_of(posts)
    for many in range(len(pairs) + 1):
        for ties in itertools.combinations(pairs, many):
            yield list(posts), list(ties)


def all_small_maps(many):
    """All maps of at most so many posts, as all_maps tells them; the order of the posts is not that of the letters."""
    for k in range(many + 1):
        yield from all_maps("cadb"[:k])


def peeled_map():
    """The map M of part 2 of the document."""
    return Map(POSTS, [("a", "b"), ("a", "c"), ("b", "c"), ("b", "d"), ("c", "d"), ("d", "e")])


def levels_map():
    """The map M of part 3 of the document."""
    return Map(POSTS, [("a", "b"), ("b", "c"), ("c", "d"), ("a", "d"), ("a", "c")])


def words(many, letter="p"):
    return [f"{letter}{k}" for k in range(many)]


def plain_map(many):
    """A map without ties."""
    return Map(words(many), [])


def ring_of_posts(many, letter="p"):
    posts = words(many, letter)
    return Map(posts, list(zip(posts, posts[1:] + posts[:1])))


def band(many, width, posts):
    """A good map with these posts, in which two are tied if their numbers differ by at most the width."""
    return Map(posts, [(posts[i], posts[j]) for i in range(many) for j in range(i + 1, min(many, i + width + 1))])


def grown_map(many, width, seed):
    """A good map: each new post is tied to some posts of a crowd of what is there, or to none."""
    choose = random.Random(seed)
    posts = words(many)
    crowds = [[]]
    ties = []
    for post in posts:
        whole = choose.choice(crowds)
        near = choose.sample(whole, min(len(whole), choose.randrange(width + 1)))
        ties += [(post, x) for x in near]
        crowds.append(near + [post])
    choose.shuffle(posts)
    return Map(posts, ties)


def with_a_long_ring(made, many, seed):
    """A map with some posts more, which are a long ring, and some ties of these with what was there."""
    choose = random.Random(seed)
    ring = ring_of_posts(many, "r")
    more = [(choose.choice(made.posts()), choose.choice(ring.posts())) for _ in range(3)]
    posts = ring.posts() + made.posts()
    choose.shuffle(posts)
    return Map(posts, made.ties() + ring.ties() + sorted(set(more)))


GOOD_MAPS = [
    plain_map(16), *[band(16, width, words(16)[::-1]) for width in [1, 2, 3, 8, 16]],
    *[grown_map(many, width, 10 * many + width) for many in [6, 9, 12, 15, 16] for width in [1, 2, 3, 5]]]
BAD_MAPS = [
    *[ring_of_posts(many) for many in [4, 5, 6, 7, 16]],
    *[with_a_long_ring(grown_map(10, 3, many), many, many) for many in [4, 5, 6]],
    *[with_a_long_ring(band(10, width, words(10)), 6, width) for width in [1, 2, 4]]]


def layered_map(sizes):
    """A map with layers of posts, each of them tied to all those of the next layer; returned with the layers."""
    layers = [words(many, chr(ord("a") + k)) for k, many in enumerate(sizes)]
    ties = [(x, y) for one, other in zip(layers, layers[1:]) for x in one for y in other]
    return Map([x for layer in layers for x in layer], ties), layers


def made_stand(world, row):
    """The stand with these posts of a world, which is a tuple of posts, ties, things and bonds."""
    posts, ties, things, bonds = world
    return Stand(Map(posts, ties), Party(things, bonds), row)


def unlike_stands(world, row):
    """Stands with another map than a stand of a world with a tie and two bonded things has, and with another party."""
    posts, ties, things, bonds = world
    x = row[0]
    return [
        made_stand((posts, ties[:-1], things, []), row), made_stand((posts[::-1], ties, things, bonds), row),
        made_stand((posts + ["more"], ties, things, bonds), row), made_stand(([x], [], [], []), ()),
        made_stand(([x], [], things, bonds), [x] * len(things))], [
        made_stand((posts, ties, things, bonds[1:]), row), made_stand((posts, ties, things[::-1], bonds), row[::-1]),
        made_stand((posts, ties, [*things, "more"], bonds), (*row, x)), made_stand((posts, ties, [], []), ())]


def random_world(choose, most_posts=5, most_things=3):
    posts = choose.sample("abcdef"[:most_posts], choose.randrange(1, most_posts + 1))
    share = choose.choice([0.3, 0.5, 0.7, 0.9])
    things = choose.sample("uvwxyz"[:most_things], choose.randrange(most_things + 1))
    ties = [tie for tie in ties_of(posts) if choose.random() < share]
    bonds = [bond for bond in ties_of(things) if choose.random() < choose.choice([0.4, 0.8])]
    return posts, ties, things, bonds


def random_worlds(many, seed, most_posts=5, most_things=3):
    choose = random.Random(seed)
    return [random_world(choose, most_posts, most_things) for _ in range(many)]


def good_worlds(many, seed, most_posts=5, most_things=3):
    """Worlds without long rings, by the words of the document."""
    choose = random.Random(seed)
    worlds = []
    while len(worlds) < many:
        world = random_world(choose, most_posts, most_things)
        if plain.long_rings(world[0], world[1]) == []:
            worlds.append(world)
    return worlds


def long_worlds():
    """Worlds without long rings on which things can be far apart, with several roads, and with two or three things."""
    maps = [
        ("abcdefg", "ab ac bc bd cd de df ef eg fg"), ("gcaebdf", "ab ac bc bd cd de df ef eg fg"),
        ("abcdef", "ab ac bc bd cd ce de df ef"), ("cabed", "ab bc cd de"), ("fadbec", "ab bc cd de bf"),
        ("abcde", "ab ac bc bd cd de")]
    parties = [("uv", "uv"), ("vu", ""), ("uvw", "uv vw"), ("wuv", "uw vw uv"), ("uvw", "uw"), ("vwu", "")]
    worlds = []
    for posts, ties in maps:
        for things, bonds in parties:
            ordered = [bond for bond in ties_of(things) if "".join(sorted(bond)) in bonds.split()]
            worlds.append((list(posts), [tie for tie in ties_of(posts) if "".join(sorted(tie)) in ties.split()],
                           list(things), ordered))
    return worlds


def road_tasks(worlds, seed, most):
    """Two stands and roads of each world, with at most so many steps in all."""
    choose = random.Random(seed)
    for world in worlds:
        stands = plain.stands(*world)
        for row, there in zip(some(stands, 8, seed), some(stands, 8, seed + 1)):
            rows = [plain.roads(world[0], world[1], x, y) for x, y in zip(row, there)]
            if [] not in rows:
                roads = [choose.choice(choices) for choices in rows]
                if sum(len(road) - 1 for road in roads) <= most:
                    yield world, row, there, roads


def some(rows, many, seed):
    """Some of the rows, or all of them if there are not many more."""
    rows = list(rows)
    return rows if len(rows) <= many else random.Random(seed).sample(rows, many)


# The examples of the document: posts, ties, things and bonds.
LINE_WORLD = (
    ["one", "two", "three", "four"], [("one", "two"), ("two", "three"), ("three", "four")],
    ["api", "web", "log"], [("api", "web"), ("web", "log")])
RING_WORLD = (
    list("abcd"), [("a", "b"), ("a", "d"), ("b", "c"), ("c", "d")],
    list("rstu"), [("r", "s"), ("r", "u"), ("s", "t"), ("t", "u")])
FORK_WORLD = (list("abcd"), [("a", "b"), ("b", "c"), ("b", "d"), ("c", "d")], ["u", "v"], [("u", "v")])
KITE_WORLD = (
    list("abcd"), [("a", "b"), ("a", "c"), ("b", "c"), ("b", "d"), ("c", "d")],
    ["u", "v", "w"], [("u", "v"), ("v", "w")])
ORDER_WORLD = (list("abcd"), [("a", "b"), ("b", "c"), ("c", "d")], ["x", "y", "z"], [("x", "y")])


class Case(unittest.TestCase):
    """A test case that looks at the very class of an error and at all its attributes."""

    def assert_raises(self, kind, attributes, call, *arguments):
        try:
            value = call(*arguments)
        except Exception as error:
            # An error of another class is a failure here, and its own trace is worth more than a message.
            if type(error) is not kind:
                raise
            self.assertEqual(vars(error), attributes)
            for name in attributes:
                self.assertIs(type(vars(error)[name]), type(attributes[name]))
            return
        self.fail(f"{call} returned {value!r}")

    def assert_same(self, value, wanted):
        """Like assertEqual, but 1 is not True, and a tuple is not a list, at any depth."""
        self.assertIs(type(value), type(wanted))
        self.assertEqual(value, wanted)
        if isinstance(wanted, (list, tuple)):
            for part, wanted_part in zip(value, wanted):
                self.assert_same(part, wanted_part)
