"""The texts of parties and stands: S4.5, S4.6, S4.7, S1.5, S1.6 and the interface, crossties/standtexts.py."""

import itertools
import re

from crossties.errors import BadParty, BadStand, BadText
from crossties.maps import Map
from crossties.parties import Party
from crossties.stands import Stand, gathered
from crossties.standtexts import party_text, read_party, read_stand, stand_text

from tests import plain
from tests.samples import LINE_WORLD, Case, all_maps, made_stand, plain_map, random_worlds, some, ties_of, words
from tests.texts import ROWS, FormCase

STAND = "stand {\napi one;\nweb two;\nlog three;\n}\n"
PARTY = "party (api, web, log) {\napi web;\nweb log;\n}\n"


def line_parts():
    posts, ties, things, bonds = LINE_WORLD
    return Map(posts, ties), Party(things, bonds)


class WrittenTest(Case):
    def test_the_example(self):
        stand = made_stand(LINE_WORLD, ("one", "two", "three"))
        self.assert_same(stand_text(stand), STAND)
        self.assert_same(party_text(stand.party()), PARTY)
        self.assertIs(read_stand(*line_parts(), STAND) == stand, True)
        self.assertIs(read_party(PARTY) == stand.party(), True)

    def test_no_things_and_no_bonds(self):
        self.assert_same(party_text(Party([], [])), "party () {\n}\n")
        self.assert_same(party_text(Party(["a"], [])), "party (a) {\n}\n")
        self.assert_same(party_text(Party(["party", "a1"], [("a1", "party")])), "party (party, a1) {\nparty a1;\n}\n")
        self.assert_same(stand_text(Stand(Map([], []), Party([], []), ())), "stand {\n}\n")
        made = Map(["stand", "map"], [])
        self.assert_same(stand_text(Stand(made, Party(["stand"], []), ["stand"])), "stand {\nstand stand;\n}\n")

    def test_what_is_written_is_read(self):
        for things, bonds in all_maps(["d", "party", "a", "c2"]):
            self.assertIs(read_party(party_text(Party(things, bonds))) == Party(things, bonds), True)
        for world in random_worlds(30, 3):
            for row in some(plain.stands(*world), 5, 3):
                stand = made_stand(world, row)
                text = "stand {\n" + "".join(f"{u} {x};\n" for u, x in zip(world[2], row)) + "}\n"
                self.assert_same(stand_text(stand), text)
                self.assertIs(read_stand(stand.map(), stand.party(), text) == stand, True)

    def test_sixteen_things(self):
        things = words(16, "t")
        bonds = ties_of(things)
        text = "party (" + ", ".join(things) + ") {\n" + "".join(f"{x} {y};\n" for x, y in bonds) + "}\n"
        party = Party(things, bonds[::-1])
        self.assert_same(party_text(party), text)
        self.assertIs(read_party(text) == party, True)
        stand = gathered(plain_map(16), party, "p9")
        self.assert_same(stand_text(stand), "stand {\n" + "".join(f"{thing} p9;\n" for thing in things) + "}\n")


class ReadTest(Case):
    def test_bonds_in_any_sequence_and_either_way_round(self):
        for one, other in itertools.permutations(["api web;", "web log;"]):
            for text in [f"party(api,web,log){{{one}{other}}}", f"\n party ( api\n,web , log ) {{ {one} {other} }} \n"]:
                self.assertIs(read_party(text) == line_parts()[1], True)
        self.assertIs(read_party("party (api, web, log) {log web; web api;}") == line_parts()[1], True)
        self.assertIs(read_party("party(){}") == Party([], []), True)

    def test_blanks_and_line_feeds_anywhere_or_none(self):
        wanted = made_stand(LINE_WORLD, ("one", "two", "three"))
        for text in ["stand{api one;web two;log three;}", " \nstand\n{ api\n\none ;web two\n; log  three; } \n\n"]:
            self.assertIs(read_stand(*line_parts(), text) == wanted, True)
        empty = Stand(Map([], []), Party([], []), ())
        self.assertIs(read_stand(Map([], []), Party([], []), " stand { }") == empty, True)


class PartyPlaceTest(FormCase):
    first = "party"
    whole = re.compile(r"k\(([kw](,[kw])*)?\)" + ROWS)
    endings = ["", "k(){}", "(){}", "){}", "w){}", "{}", "}", "w;}", ";}"]

    def read(self, text):
        return read_party(text)

    def test_all_rows_of_up_to_four_lexemes(self):
        self.all_short_rows(4)

    def test_one_or_two_changes_of_a_whole_text(self):
        self.changes_of("k(w,k,w){kw;ww;kw;}")

    def test_texts_that_are_cut_off(self):
        self.cut_off(PARTY)

    def test_characters_that_begin_no_lexeme(self):
        self.wrong_characters(PARTY)

    def test_single_places(self):
        for text, place in [
                ("", 0), (" \n", 2), ("partyy (a) {}", 0), ("map (a) {}", 0), ("stand {}", 0), ("party {", 6),
                ("party (,a) {}", 7), ("party (a,) {}", 9), ("party (a b) {}", 9), ("party (1) {}", 7),
                ("party (a) {a;}", 12), ("party (a) {a b}", 14), ("party (a) {} }", 13), ("party [ a", 6),
                ("party (a", 8), ("party (abcdefghijklm) {}", 7), ("party (a) {} 7", 13), ("party a [", 6)]:
            self.assert_raises(BadText, {"place": place}, read_party, text)


class StandPlaceTest(FormCase):
    first = "stand"
    whole = re.compile("k" + ROWS)
    endings = ["", "k{}", "{}", "}", "w;}", ";}"]

    def read(self, text):
        return read_stand(*line_parts(), text)

    def test_all_rows_of_up_to_five_lexemes(self):
        self.all_short_rows(5)

    def test_one_or_two_changes_of_a_whole_text(self):
        self.changes_of("k{kw;ww;kw;}")

    def test_texts_that_are_cut_off(self):
        self.cut_off(STAND)

    def test_characters_that_begin_no_lexeme(self):
        self.wrong_characters(STAND)

    def test_single_places(self):
        for text, place in [
                ("", 0), ("stan {}", 0), ("party () {}", 0), ("stand (", 6), ("stand {api}", 10), ("stand {api one}", 14),
                ("stand {api one; web}", 19), ("stand {;}", 7), ("stand {} ;", 9), ("stand {api 1;}", 11),
                ("stand {api one; }}", 17), ("stand {api (", 11), ("stand {api abcdefghijklm;}", 11)]:
            self.assert_raises(BadText, {"place": place}, self.read, text)


class BadPartyTest(Case):
    def test_what_a_text_tells_wrongly(self):
        for text, path in [
                ("party (a, a) {}", (0, 1)), ("party (a, b, c, b, a) {}", (0, 3)), ("party (a) {a b;}", (1, 0, 1)),
                ("party () {a b;}", (1, 0, 0)), ("party (a, b) {a b; b a;}", (1, 1)), ("party (a, b) {b b;}", (1, 0)),
                ("party (a, b) {a b; x b; a a;}", (1, 1, 0)), ("party (a, a) {x y;}", (0, 1)),
                ("party (a, b) {a a; x y;}", (1, 0))]:
            self.assert_raises(BadParty, {"path": path}, read_party, text)

    def test_a_wrong_place_comes_first(self):
        for text, place in [("party (a, a) {", 14), ("party (a, a) {x y;} ;", 20), ("party (a) {b b; 3", 16)]:
            self.assert_raises(BadText, {"place": place}, read_party, text)


class BadStandTest(Case):
    def test_what_a_text_tells_wrongly(self):
        for rows, path in [
                ("", ()), ("api one; web two;", ()), ("api one; web two; log two; log two;", ()), ("x y;", ()),
                ("web one; api two; log three;", (0,)), ("api one; web two; web two;", (2,)),
                ("api one; log three; web two;", (1,)), ("api five; web two; lag two;", (2,)),
                ("api one; one web; log three;", (1,)), ("api five; web two; log two;", (0,)),
                ("api one; web two; log api;", (2,)), ("api one; web two; log four;", (1, 2)),
                ("api one; web three; log one;", (0, 1)), ("api one; web three; log five;", (2,))]:
            self.assert_raises(BadStand, {"path": path}, read_stand, *line_parts(), f"stand {{{rows}}}")

    def test_a_wrong_place_comes_first(self):
        for text, place in [("stand {api five;", 16), ("stand {x y;} ;", 13), ("stand {web one; 3", 16)]:
            self.assert_raises(BadText, {"place": place}, read_stand, *line_parts(), text)

    def test_maps_and_parties_without_members(self):
        empty = Map([], [])
        self.assert_raises(BadStand, {"path": ()}, read_stand, empty, Party([], []), "stand {a b;}")
        self.assert_raises(BadStand, {"path": (0,)}, read_stand, empty, Party(["a"], []), "stand {a b;}")
        self.assert_raises(BadStand, {"path": ()}, read_stand, empty, Party(["a"], []), "stand {}")


class GreatTextTest(Case):
    def test_twenty_thousand_characters(self):
        text = PARTY.ljust(20000)
        self.assertIs(read_party(text) == line_parts()[1], True)
        self.assert_raises(BadText, {"place": 20000}, read_party, text.replace("}", " "))
        self.assert_raises(BadText, {"place": 19999}, read_party, text[:-1] + "!")
        text = STAND.rjust(20000, "\n")
        self.assert_same(read_stand(*line_parts(), text).posts(), ("one", "two", "three"))
        rows = "api one;" * 2400
        self.assert_raises(BadStand, {"path": ()}, read_stand, *line_parts(), f"stand {{{rows}}}")
