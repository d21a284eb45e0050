"""Parties: S4.1, S4.2, S4.5 and the interface, crossties/parties.py."""

import itertools

from crossties.errors import BadParty, UnknownName
from crossties.maps import Map
from crossties.parties import Party, party_part, party_pieces, with_bond, without_bond

from tests.samples import Case, all_maps, deep, example, no_lists, no_posts, no_words, ties_of, words

THINGS = ["a", "b", "c", "d", "e"]
BONDS = [("b", "a"), ("b", "c"), ("d", "c"), ("b", "d")]


def sample():
    return Party(THINGS, BONDS)


def hangs(things, bonds):
    """The pairs of things that hang together, as what no step adds to any more."""
    found = {(x, x) for x in things} | set(bonds) | {(y, x) for x, y in bonds}
    while True:
        more = found | {(x, z) for x, y in found for w, z in found if y == w}
        if more == found:
            return found
        found = more


class PartyTest(Case):
    def test_things_and_bonds(self):
        self.assert_same(sample().things(), THINGS)
        self.assert_same(sample().bonds(), [("a", "b"), ("b", "c"), ("b", "d"), ("c", "d")])
        self.assert_same(sample().bonded("b"), ["a", "c", "d"])
        self.assert_same(sample().bonded("e"), [])
        self.assert_same([sample().number(thing) for thing in THINGS], [0, 1, 2, 3, 4])
        self.assertIs(sample().are_bonded("d", "b"), True)
        self.assertIs(sample().are_bonded("a", "d"), False)
        self.assertIs(sample().are_bonded("b", "b"), False)

    def test_bonds_from_the_other_end_and_in_any_order(self):
        for bonds in itertools.permutations(BONDS):
            for turned in itertools.product([False, True], repeat=len(bonds)):
                passed = [(y, x) if turn else (x, y) for turn, (x, y) in zip(turned, bonds)]
                self.assert_same(Party(THINGS, passed).bonds(), sample().bonds())
                self.assertIs(Party(tuple(THINGS), tuple(passed)) == sample(), True)

    def test_the_order_is_that_of_the_things(self):
        made = Party(["d", "b", "a", "c"], [("a", "b"), ("a", "c"), ("b", "c"), ("a", "d")])
        self.assert_same(made.bonds(), [("d", "a"), ("b", "a"), ("b", "c"), ("a", "c")])
        self.assert_same(made.bonded("a"), ["d", "b", "c"])
        many = words(16, "t")
        made = Party(many, [("t10", "t2"), ("t9", "t10"), ("t2", "t1"), ("t15", "t2")])
        self.assert_same(made.bonds(), [("t1", "t2"), ("t2", "t10"), ("t2", "t15"), ("t9", "t10")])
        self.assert_same(made.bonded("t2"), ["t1", "t10", "t15"])

    def test_no_things_and_no_bonds(self):
        for empty in [Party([], []), Party((), ()), party_part(sample(), [])]:
            self.assert_same(empty.things(), [])
            self.assert_same(empty.bonds(), [])
            self.assert_same(party_pieces(empty), [])
            self.assertIs(empty == Party([], []), True)
            for value in no_posts() + ["a"]:
                self.assert_raises(UnknownName, {"name": value}, empty.number, value)
        loose = Party(["web", "party", "a1"], [])
        self.assert_same(loose.bonds(), [])
        self.assert_same(party_pieces(loose), [("web",), ("party",), ("a1",)])

    def test_every_question_on_every_party_of_four_things(self):
        for things, bonds in all_maps(["c", "a", "d", "b"]):
            made = Party(things, [(y, x) for x, y in bonds[::-1]])
            pairs = set(bonds) | {(y, x) for x, y in bonds}
            self.assert_same(made.things(), things)
            self.assert_same(made.bonds(), bonds)
            for k, x in enumerate(things):
                self.assert_same(made.number(x), k)
                self.assert_same(made.bonded(x), [y for y in things if (x, y) in pairs])
                for y in things:
                    self.assert_same(made.are_bonded(x, y), (x, y) in pairs)

    def test_sixteen_things_all_bonded(self):
        things = words(16, "t")
        made = Party(things, ties_of(things)[::-1])
        self.assert_same(made.bonds(), ties_of(things))
        self.assert_same(party_pieces(made), [tuple(things)])
        self.assert_same(made.bonded("t3"), things[:3] + things[4:])


class PiecesTest(Case):
    def test_pieces_of_the_sample(self):
        self.assert_same(party_pieces(sample()), [("a", "b", "c", "d"), ("e",)])
        made = Party(["e", "d", "a", "b", "c"], [("c", "d"), ("b", "e")])
        self.assert_same(party_pieces(made), [("e", "b"), ("d", "c"), ("a",)])

    def test_pieces_of_small_parties(self):
        for many in range(5):
            for things, bonds in all_maps(["c", "a", "d", "b"][:many]):
                together = hangs(things, bonds)
                wanted = []
                for x in things:
                    piece = tuple(y for y in things if (x, y) in together)
                    if piece not in wanted:
                        wanted.append(piece)
                self.assert_same(party_pieces(Party(things, bonds)), wanted)


class PartTest(Case):
    def test_every_part_of_small_parties(self):
        for things, bonds in all_maps(["c", "a", "d", "b"]):
            made = Party(things, bonds)
            for many in range(5):
                for chosen in itertools.combinations(things, many):
                    part = party_part(made, list(chosen[::-1]))
                    self.assert_same(part.things(), list(chosen))
                    self.assert_same(part.bonds(), [(x, y) for x, y in bonds if x in chosen and y in chosen])
                    self.assertIs(party_part(made, chosen) == part, True)

    def test_bonds_put_in_and_taken_off(self):
        for things, bonds in all_maps(["c", "a", "d", "b"]):
            made = Party(things, bonds)
            for x, y in ties_of(things):
                more = [bond for bond in ties_of(things) if bond in bonds or bond == (x, y)]
                less = [bond for bond in bonds if bond != (x, y)]
                for one, other in [(x, y), (y, x)]:
                    self.assert_same(with_bond(made, one, other).bonds(), more)
                    self.assert_same(without_bond(made, one, other).bonds(), less)
                    self.assert_same(with_bond(made, one, other).things(), things)
                    self.assert_same(without_bond(made, one, other).things(), things)
            for x in things:
                self.assertIs(with_bond(made, x, x) == made, True)
                self.assertIs(without_bond(made, x, x) == made, True)
            self.assert_same(made.bonds(), bonds)


class EqualTest(Case):
    def test_equal_and_not(self):
        self.assertIs(sample() == sample(), True)
        self.assertIs(sample() != sample(), False)
        others = [
            Party(["b", "a", "c", "d", "e"], BONDS), Party(THINGS, BONDS[1:]), Party(THINGS, BONDS + [("a", "e")]),
            Party(THINGS + ["f"], BONDS), Party(["a", "b", "c", "d", "f"], BONDS), Party(THINGS, []), Party([], [])]
        for other in others:
            self.assertIs(sample() == other, False)
            self.assertIs(other == sample(), False)
            self.assertIs(sample() != other, True)

    def test_each_two_small_parties(self):
        rows = [(things, bonds) for order in itertools.permutations("abc") for things, bonds in all_maps(order)]
        for one in rows:
            for other in rows:
                self.assertIs(Party(*one) == Party(*other), one == other)

    def test_what_is_no_party(self):
        for value in no_posts() + [(THINGS, BONDS), [THINGS, BONDS], example(), Map(THINGS, BONDS)]:
            self.assertIs(sample() == value, False)
            self.assertIs(value == sample(), False)
        self.assertIs(Party([], []) == Map([], []), False)
        self.assertIs(Map([], []) == Party([], []), False)


class UnknownNameTest(Case):
    def test_one_thing(self):
        for value in no_posts() + ["f"]:
            for call in [sample().number, sample().bonded]:
                self.assert_raises(UnknownName, {"name": value}, call, value)

    def test_two_things(self):
        calls = [sample().are_bonded]
        for function in [with_bond, without_bond]:
            calls.append(lambda x, y, function=function: function(sample(), x, y))
        for call in calls:
            for value in no_posts():
                self.assert_raises(UnknownName, {"name": value}, call, value, "a")
                self.assert_raises(UnknownName, {"name": value}, call, "a", value)
                self.assert_raises(UnknownName, {"name": value}, call, value, value)
                self.assert_raises(UnknownName, {"name": value}, call, value, "f")
                self.assert_raises(UnknownName, {"name": "f"}, call, "f", value)

    def test_lists_of_things(self):
        for value in no_posts():
            for things in [[value], ["a", value], ("e", "a", value, "f"), [value, []]]:
                self.assert_raises(UnknownName, {"name": value}, party_part, sample(), things)


class BadPartyTest(Case):
    def test_things_that_are_no_list(self):
        for value in no_lists() + ["a", "abc"]:
            for bonds in [[], None, [("a", "b")], [3]]:
                self.assert_raises(BadParty, {"path": (0,)}, Party, value, bonds)

    def test_things_that_are_no_words_or_stand_earlier(self):
        for value in no_words():
            self.assert_raises(BadParty, {"path": (0, 0)}, Party, [value], [])
            self.assert_raises(BadParty, {"path": (0, 2)}, Party, ("a", "b", value, "a", "B"), None)
        self.assert_raises(BadParty, {"path": (0, 1)}, Party, ["a", "a"], [])
        self.assert_raises(BadParty, {"path": (0, 2)}, Party, ["a", "b", "a", "b", 3], [("a", "a")])
        self.assert_raises(BadParty, {"path": (0, 16)}, Party, words(16, "t") + ["t15"], [])

    def test_bonds_that_are_no_list(self):
        for value in no_lists() + ["ab"]:
            self.assert_raises(BadParty, {"path": (1,)}, Party, ["a", "b"], value)
            self.assert_raises(BadParty, {"path": (1,)}, Party, [], value)

    def test_a_bond_that_is_no_pair(self):
        wrong = [
            None, True, 0, "", "ab", {}, {"a": "b"}, [], ["a", "b"], (), ("a",), ("a", "b", "c"), ("a", "b", "a"),
            [("a", "b")], example(), sample(), deep("a")]
        for value in wrong:
            self.assert_raises(BadParty, {"path": (1, 0)}, Party, ["a", "b", "c"], [value])
            self.assert_raises(BadParty, {"path": (1, 1)}, Party, ["a", "b", "c"], (("b", "a"), value))

    def test_a_member_that_is_no_thing(self):
        for value in no_posts() + ["f"]:
            self.assert_raises(BadParty, {"path": (1, 0, 0)}, Party, THINGS, [(value, "a")])
            self.assert_raises(BadParty, {"path": (1, 0, 1)}, Party, THINGS, [("a", value)])
            self.assert_raises(BadParty, {"path": (1, 0, 0)}, Party, THINGS, [(value, value)])
            bonds = [("a", "b"), ("a", "c"), ("e", value), 3]
            self.assert_raises(BadParty, {"path": (1, 2, 1)}, Party, THINGS, bonds)
        self.assert_raises(BadParty, {"path": (1, 0, 0)}, Party, [], [("a", "a")])

    def test_one_thing_twice_and_earlier_bonds(self):
        self.assert_raises(BadParty, {"path": (1, 0)}, Party, ["a", "b"], [("a", "a")])
        self.assert_raises(BadParty, {"path": (1, 1)}, Party, ["a", "b"], [("a", "b"), ("b", "b")])
        for again in [("a", "b"), ("b", "a")]:
            self.assert_raises(BadParty, {"path": (1, 1)}, Party, ["a", "b"], [("a", "b"), again])
            self.assert_raises(BadParty, {"path": (1, 2)}, Party, ["b", "c", "a"], [("b", "a"), ("c", "a"), again])

    def test_all_of_a_bond_is_asked_before_the_next_one(self):
        things = ["a", "b", "c"]
        faults = [
            (3, (1, 0)), (("x", "a"), (1, 0, 0)), (("a", []), (1, 0, 1)), (("b", "b"), (1, 0)), ([], (1, 0))]
        for one, path in faults:
            for other, _ in faults:
                self.assert_raises(BadParty, {"path": path}, Party, things, [one, other])
                self.assert_raises(BadParty, {"path": path}, Party, things, (one, ("a", "b"), other))

    def test_every_pair_of_faults_in_their_order(self):
        faults = [((0, k), k, value) for k in range(4) for value in ["", None]]
        faults += [((1, k), k, value) for k in range(3) for value in [(), ["a", "b"], ("c", "c")]]
        faults += [((1, k, 0), k, (7, "q")) for k in range(3)] + [((1, k, 1), k, ("a", "q")) for k in range(3)]
        for (one, i, first), (other, j, second) in itertools.product(faults, repeat=2):
            if one[:2] == other[:2]:
                continue
            parts = [["a", "b", "c", "d"], [("a", "b"), ("c", "b"), ("d", "a")]]
            parts[one[0]][i] = first
            parts[other[0]][j] = second
            self.assert_raises(BadParty, {"path": min(one, other)}, Party, *parts)
