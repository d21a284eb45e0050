"""Made maps: S8.6 to S8.10 and the interface, crossties/makers.py."""

import itertools
import random

from crossties.crowds import crowds_of
from crossties.crowdtrees import judge_crowd_tree
from crossties.errors import BadMade, NotGood
from crossties.longrings import long_ring_of
from crossties.makers import (
    kinds_peeling, map_of_kinds, map_of_spans, map_of_subtrees, map_of_window, spans_peeling, subtree_form,
    subtrees_peeling, window_peeling)
from crossties.maps import Map
from crossties.peelings import judge_peeling

from tests import plain
from tests.samples import (
    BAD_MAPS, GOOD_MAPS, Case, all_maps, all_small_maps, no_lists, no_posts, no_words, peeled_map, some, words)

KINDS = [("pet", None), ("dog", "pet"), ("cat", "pet"), ("pup", "dog")]
SPANS = [("p", 1, 3), ("q", 3, 5), ("s", 4, 9)]
SUBTREES = [("v0", ("c0",)), ("v1", ("c0", "c1")), ("v2", ("c1", "c0")), ("v3", ("c1",))]


def random_kinds(choose, many):
    """Kinds, each with an elder among those before it or with none, in any order."""
    names = choose.sample(words(30, "k"), many)
    pairs = [(name, choose.choice([None, *names[:k], *names[max(0, k - 2):k]])) for k, name in enumerate(names)]
    choose.shuffle(pairs)
    return pairs


def random_spans(choose, many):
    spans = []
    for name in choose.sample(words(30, "s"), many):
        low, high = sorted(choose.choices(range(-12, 13), k=2))
        high = min(high, low + choose.choice([0, 1, 3, 30]))
        spans.append((name, low, high))
    return spans


def random_subtrees(choose, pairs, many):
    """Subtrees of a forest, each grown from some node by children and parents."""
    links = [(kind, elder) for kind, elder in pairs if elder is not None]
    rows = []
    for name in choose.sample(words(30, "w"), many):
        nodes = [choose.choice(pairs)[0]]
        for _ in range(choose.randrange(6)):
            near = [y for one, other in links for x, y in [(one, other), (other, one)] if x in nodes and y not in nodes]
            nodes += [choose.choice(near)] if near else []
        choose.shuffle(nodes)
        rows.append((name, tuple(nodes)))
    return rows


def elders(pairs, kind):
    """The kinds above a kind."""
    row = []
    while dict(pairs)[kind] is not None:
        kind = dict(pairs)[kind]
        row.append(kind)
    return row


def map_by(posts, are_tied):
    return Map(posts, [(x, y) for x, y in itertools.combinations(posts, 2) if are_tied(x, y)])


def kinds_map(pairs):
    return map_by([kind for kind, _ in pairs], lambda x, y: x in elders(pairs, y) or y in elders(pairs, x))


def spans_map(spans):
    ends = {word: (low, high) for word, low, high in spans}
    return map_by(list(ends), lambda x, y: max(ends[x][0], ends[y][0]) <= min(ends[x][1], ends[y][1]))


def subtrees_map(subtrees):
    return map_by([word for word, _ in subtrees], lambda x, y: set(dict(subtrees)[x]) & set(dict(subtrees)[y]))


def least_first(names, rank):
    return tuple(name for value in sorted({rank(name) for name in names}) for name in names if rank(name) == value)


class ExampleTest(Case):
    def test_kinds(self):
        wanted = Map(["pet", "dog", "cat", "pup"], [("pet", "dog"), ("pet", "cat"), ("pet", "pup"), ("dog", "pup")])
        self.assertEqual(map_of_kinds(KINDS), wanted)
        self.assert_same(kinds_peeling(KINDS), ("pup", "dog", "cat", "pet"))

    def test_spans(self):
        self.assertEqual(map_of_spans(SPANS), Map(["p", "q", "s"], [("p", "q"), ("q", "s")]))
        self.assert_same(spans_peeling(SPANS), ("p", "q", "s"))

    def test_the_window(self):
        made = map_of_window(4, 2)
        self.assert_same(made.posts(), ["v0", "v1", "v2", "v3"])
        self.assertEqual(set(itertools.combinations(made.posts(), 2)) - set(made.ties()), {("v0", "v3")})
        self.assert_same(window_peeling(4, 2), ("v0", "v1", "v2", "v3"))
        self.assert_same(crowds_of(made), [("v0", "v1", "v2"), ("v1", "v2", "v3")])
        forest = [("c0", None), ("c1", "c0")]
        subtrees = [("v0", ("c0",)), ("v1", ("c0", "c1")), ("v2", ("c0", "c1")), ("v3", ("c1",))]
        self.assert_same(subtree_form(made), (forest, subtrees))
        self.assertEqual(map_of_subtrees(forest, subtrees), made)
        self.assertEqual(map_of_subtrees(tuple(forest), tuple(SUBTREES)), made)
        self.assert_same(subtrees_peeling(forest, subtrees), ("v3", "v0", "v1", "v2"))


class EmptyTest(Case):
    def test_nothing(self):
        for nothing in [[], ()]:
            self.assertEqual(map_of_kinds(nothing), Map([], []))
            self.assertEqual(map_of_spans(nothing), Map([], []))
            for forest in [nothing, KINDS]:
                self.assertEqual(map_of_subtrees(forest, nothing), Map([], []))
                self.assert_same(subtrees_peeling(forest, nothing), ())
            self.assert_same(kinds_peeling(nothing), ())
            self.assert_same(spans_peeling(nothing), ())
        for r in [0, 1, 30]:
            self.assertEqual(map_of_window(0, r), Map([], []))
            self.assert_same(window_peeling(0, r), ())
        self.assert_same(subtree_form(Map([], [])), ([], []))

    def test_one(self):
        self.assertEqual(map_of_kinds([("a", None)]), Map(["a"], []))
        self.assertEqual(map_of_spans([("a", 5, 5)]), Map(["a"], []))
        self.assertEqual(map_of_window(1, 30), Map(["v0"], []))
        self.assertEqual(map_of_subtrees([("n", None)], [("a", ("n",))]), Map(["a"], []))
        self.assert_same(subtree_form(Map(["a"], [])), ([("c0", None)], [("a", ("c0",))]))


class MadeTest(Case):
    def is_peeling_by(self, made, peeling, rank):
        self.assertIs(judge_peeling(made, peeling), True)
        self.assert_same(peeling, least_first(made.posts(), rank))

    def test_kinds(self):
        choose = random.Random(81)
        for _ in range(150):
            pairs = random_kinds(choose, choose.randrange(1, 13))
            made = map_of_kinds(pairs)
            self.assertEqual(made, kinds_map(pairs))
            self.assertEqual(map_of_kinds(tuple(pairs)), made)
            self.is_peeling_by(made, kinds_peeling(pairs), lambda kind: -len(elders(pairs, kind)))
            self.assert_same(kinds_peeling(tuple(pairs)), kinds_peeling(pairs))

    def test_a_long_line_of_elders(self):
        names = words(30, "k")
        for pairs in [list(zip(names, names[1:] + [None])), list(zip(names, [None] + names))[::-1]]:
            made = map_of_kinds(pairs)
            self.assertEqual(len(made.ties()), 435)
            self.is_peeling_by(made, kinds_peeling(pairs), lambda kind: -len(elders(pairs, kind)))

    def test_spans(self):
        choose = random.Random(82)
        for _ in range(150):
            spans = random_spans(choose, choose.randrange(1, 13))
            made = map_of_spans(spans)
            self.assertEqual(made, spans_map(spans))
            self.assertEqual(map_of_spans(tuple(spans)), made)
            self.is_peeling_by(made, spans_peeling(spans), lambda word: {row[0]: row[2] for row in spans}[word])
            self.assert_same(spans_peeling(tuple(spans)), spans_peeling(spans))

    def test_spans_with_equal_and_with_great_ends(self):
        great = 10 ** 39
        spans = [("a", -great, great), ("b", great, great), ("c", -great, -great), ("d", 0, 0), ("e", 0, 0),
                 ("f", great - 1, great), ("g", -great, 0)]
        made = map_of_spans(spans)
        self.assertEqual(made, spans_map(spans))
        self.assert_same(made.tied("b"), ["a", "f"])
        self.assert_same(made.tied("g"), ["a", "c", "d", "e"])
        self.assert_same(spans_peeling(spans), ("c", "d", "e", "g", "a", "b", "f"))
        many = [(word, 7, 7) for word in words(30)]
        self.assertEqual(len(map_of_spans(many).ties()), 435)
        self.assert_same(spans_peeling(many), tuple(words(30)))

    def test_windows(self):
        for n, r in itertools.product([*range(8), 29, 30], [*range(8), 28, 29, 30, 31, 10 ** 39]):
            made = map_of_window(n, r)
            names = words(n, "v")
            wanted = [(names[i], names[j]) for i in range(n) for j in range(n) if i < j <= i + min(r, 40)]
            self.assertEqual(made, Map(names, wanted))
            self.assert_same(window_peeling(n, r), tuple(names))
            self.assertIs(judge_peeling(made, window_peeling(n, r)), True)

    def test_subtrees(self):
        choose = random.Random(83)
        for _ in range(150):
            forest = random_kinds(choose, choose.randrange(1, 10))
            subtrees = random_subtrees(choose, forest, choose.randrange(9))
            made = map_of_subtrees(forest, subtrees)
            self.assertEqual(made, subtrees_map(subtrees))
            self.assertEqual(map_of_subtrees(tuple(forest), tuple(subtrees)), made)
            depths = {word: min(len(elders(forest, node)) for node in nodes) for word, nodes in subtrees}
            self.is_peeling_by(made, subtrees_peeling(forest, subtrees), lambda word: -depths[word])
            self.assert_same(subtrees_peeling(tuple(forest), tuple(subtrees)), subtrees_peeling(forest, subtrees))


class FormTest(Case):
    def is_form(self, made):
        form = subtree_form(made)
        self.assertIs(type(form), tuple)
        forest, subtrees = form
        crowds = crowds_of(made)
        names = words(len(crowds), "c")
        self.assert_same([node for node, _ in forest], names)
        rows = [(post, tuple(name for name, crowd in zip(names, crowds) if post in crowd)) for post in made.posts()]
        self.assert_same(subtrees, rows)
        parents = dict(forest)
        pairs = [tuple(sorted([names.index(node), names.index(parents[node])]))
                 for node in names if parents[node] is not None]
        self.assertIs(judge_crowd_tree(made, pairs), True)
        for k, node in enumerate(names):
            # The top of what hangs together with a node has the least number there.
            top = ([node] + elders(forest, node))[-1]
            self.assertLessEqual(names.index(top), k)
        self.assertEqual(map_of_subtrees(forest, subtrees), made)
        self.assertIs(judge_peeling(made, subtrees_peeling(forest, subtrees)), True)

    def test_good_maps(self):
        for made in [*GOOD_MAPS, peeled_map()]:
            self.is_form(made)

    def test_made_maps(self):
        for n, r in [(30, 0), (30, 1), (30, 3), (30, 30), (7, 2)]:
            self.is_form(map_of_window(n, r))

    def test_small_maps(self):
        for posts, ties in [*all_small_maps(4), *some(all_maps("dbeca"), 300, 84)]:
            made = Map(posts, ties)
            ring = long_ring_of(made)
            if ring is None:
                self.is_form(made)
            else:
                self.assertNotEqual(plain.long_rings(posts, ties), [])
                self.assert_raises(NotGood, {"ring": ring}, subtree_form, made)

    def test_bad_maps(self):
        for made in BAD_MAPS:
            self.assert_raises(NotGood, {"ring": long_ring_of(made)}, subtree_form, made)

    def test_equal_maps_have_the_same_form(self):
        for made in GOOD_MAPS:
            again = Map(tuple(made.posts()), [(y, x) for x, y in made.ties()[::-1]])
            self.assert_same(subtree_form(made), subtree_form(again))


class WrongKindsTest(Case):
    calls = [
        (map_of_kinds, ()), (kinds_peeling, ()), (lambda value: map_of_subtrees(value, None), (0,)),
        (lambda value: subtrees_peeling(value, []), (0,)), (lambda value: map_of_subtrees(value, [("a", ("n",))]), (0,))]

    def refused(self, value, path):
        for call, ahead in self.calls:
            self.assert_raises(BadMade, {"path": ahead + path}, call, value)

    def test_no_list(self):
        for value in no_lists():
            self.refused(value, ())

    def test_no_pair(self):
        for value in no_posts() + [["a", None], ("a",), ("a", None, None), "ab", {"a": None}, ()]:
            if not (isinstance(value, tuple) and len(value) == 2):
                self.refused([value], (0,))
                self.refused([("b", None), value, 3], (1,))
                self.refused((("b", "q"), value), (1,))

    def test_no_word(self):
        for value in no_words():
            self.refused([(value, None)], (0, 0))
            self.refused([("b", "b"), ("c", "q"), (value, value), None], (2, 0))

    def test_an_earlier_word(self):
        self.refused([("a", None), ("b", "a"), ("a", "b")], (2, 0))
        self.refused([("a", "a"), ("a", None)], (1, 0))

    def test_an_elder_that_is_none(self):
        for value in [*no_posts(), "q"]:
            if value is not None:
                self.refused([("a", None), ("b", value)], (1, 1))
                self.refused([("c", value), ("b", "x"), ("a", None)], (0, 1))
                self.refused([("a", "b"), ("b", "a"), ("c", value)], (2, 1))

    def test_kinds_that_come_back_to_themselves(self):
        self.refused([("a", "a")], (0, 1))
        self.refused([("a", None), ("b", "b"), ("c", "c")], (1, 1))
        self.refused([("a", "b"), ("b", "c"), ("c", "b")], (1, 1))
        self.refused([("x", "b"), ("y", "x"), ("c", "b"), ("b", "a"), ("a", "c")], (2, 1))
        for many in [2, 3, 29, 30]:
            names = words(many, "k")
            ring = list(zip(names, names[1:] + names[:1]))
            for k in range(many):
                self.refused(ring[k:] + ring[:k], (0, 1))
                self.refused([("x", names[k]), ("y", "x"), *ring], (2, 1))
                self.refused([*[("x", names[k]), ("y", None), ("z", "y")], *ring], (3, 1))

    def test_the_first_of_several(self):
        faults = [("pair", 3), ("word", ("A", None)), ("earlier", ("k0", None)), ("elder", ("w", "q")), ("ring", ("v", "v"))]
        order = {"pair": 0, "word": 0, "earlier": 0, "elder": 1, "ring": 2}
        paths = {"pair": (), "word": (0,), "earlier": (0,), "elder": (1,), "ring": (1,)}
        for (one, first), (other, second) in itertools.product(faults, repeat=2):
            if one == other and one in ("elder", "ring"):
                continue
            rows = [("k0", None), first, ("k1", "k0"), second]
            ranks = sorted([(order[one], 1, paths[one]), (order[other], 3, paths[other])])
            self.refused(rows, (ranks[0][1], *ranks[0][2]))


class WrongSpansTest(Case):
    def refused(self, value, path):
        for call in [map_of_spans, spans_peeling]:
            self.assert_raises(BadMade, {"path": path}, call, value)

    def test_no_list(self):
        for value in no_lists():
            self.refused(value, ())

    def test_no_triple(self):
        for value in no_posts() + [["a", 1, 2], ("a", 1), ("a", 1, 2, 3), ("a",), ()]:
            self.refused([value], (0,))
            self.refused([("b", 1, 2), value, ("c", 2, 1)], (1,))

    def test_no_word_or_an_earlier_one(self):
        for value in [*no_words(), "b"]:
            self.refused([("b", 0, 1), (value, None, None), None], (1, 0))
            self.refused((("b", 0, 1), (value, 5, 4)), (1, 0))

    def test_no_integers(self):
        for value in no_posts():
            if isinstance(value, int) and not isinstance(value, bool):
                continue
            self.refused([("a", value, 0)], (0, 1))
            self.refused([("a", 0, value)], (0, 2))
            self.refused([("a", value, value), None], (0, 1))
            self.refused([("a", 0, 0), ("b", 5, value), ("b", 5, 4)], (1, 2))

    def test_ends_that_are_turned_round(self):
        for low, high in [(1, 0), (0, -1), (10 ** 39, -(10 ** 39)), (10 ** 39, 10 ** 39 - 1)]:
            self.refused([("a", 0, 0), ("b", low, high), ("b", 0, 0)], (1,))
        self.assertEqual(map_of_spans([("a", -1, -1), ("b", -(10 ** 39), -1)]), Map(["a", "b"], [("a", "b")]))

    def test_the_first_of_several(self):
        faults = [(3, ()), (("A", 0, 0), (0,)), (("d", True, 0), (1,)), (("c", 0, "0"), (2,)), (("c", 2, 1), ())]
        for (one, path), (other, _) in itertools.product(faults, repeat=2):
            self.refused([("a", 0, 0), one, other], (1, *path))


class WrongSubtreesTest(Case):
    forest = [("m", "n"), ("n", None), ("o", "n"), ("p", None)]

    def refused(self, value, path):
        for call in [map_of_subtrees, subtrees_peeling]:
            for forest in [self.forest, tuple(self.forest)]:
                self.assert_raises(BadMade, {"path": (1, *path)}, call, forest, value)

    def test_no_list(self):
        for value in no_lists():
            self.refused(value, ())

    def test_no_pair(self):
        for value in no_posts() + [["a", ("n",)], ("a",), ("a", ("n",), 1), ()]:
            if not (isinstance(value, tuple) and len(value) == 2):
                self.refused([value], (0,))
                self.refused([("b", ("n",)), value, None], (1,))

    def test_no_word_or_an_earlier_one(self):
        for value in [*no_words(), "b"]:
            self.refused([("b", ("n",)), (value, ()), None], (1, 0))

    def test_no_tuple_or_the_empty_one(self):
        for value in no_posts():
            if not isinstance(value, tuple) or value == ():
                self.refused([("a", value), None], (0, 1))
        self.refused([("b", ("n",)), ("a", ["n"])], (1, 1))

    def test_no_node_or_an_earlier_member(self):
        for value in [*no_posts(), "q", "n"]:
            self.refused([("a", ("n", "m", value, "p"))], (0, 1, 2))
            self.refused([("b", ("o",)), ("a", ("n", value, value)), 3], (1, 1, 1))

    def test_more_than_one_top(self):
        for nodes in [("m", "o"), ("n", "p"), ("p", "m"), ("m", "n", "p"), ("m", "o", "p")]:
            self.refused([("a", nodes)], (0, 1))
            self.refused([("b", ("n", "m", "o")), ("c", ("p",)), ("a", nodes), ("a", nodes)], (2, 1))
        self.assertEqual(map_of_subtrees(self.forest, [("a", ("m", "n", "o")), ("b", ("o", "n"))]).ties(), [("a", "b")])

    def test_the_first_of_several(self):
        faults = [
            (3, ()), (("A", ("n",)), (0,)), (("a", ("n",)), (0,)), (("c", ()), (1,)), (("c", ("n", "q")), (1, 1)),
            (("c", ("m", "o")), (1,))]
        for (one, path), (other, _) in itertools.product(faults, repeat=2):
            self.refused([("a", ("n",)), one, other], (1, *path))

    def test_the_forest_comes_first(self):
        for call in [map_of_subtrees, subtrees_peeling]:
            for value in [None, [3], [("a", ("q",))], []]:
                self.assert_raises(BadMade, {"path": (0, 1)}, call, [("n", None), 3], value)
                self.assert_raises(BadMade, {"path": (0, 0, 1)}, call, [("n", "n")], value)
                self.assert_raises(BadMade, {"path": (0,)}, call, None, value)
