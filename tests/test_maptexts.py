"""The texts of maps: S1.4, S1.6, S1.7 and the interface, crossties/maptexts.py."""

import itertools
import re

from crossties.errors import BadMap, BadText
from crossties.maps import Map
from crossties.maptexts import map_text, read_map

from tests.samples import Case, all_maps, example

WRITTEN = "map (a, b, c, d, e) {\na b;\nb c;\nb d;\nc d;\n}\n"

# One letter stands for a lexeme here: m for the word map, w for any other word, n for a number.
WHOLE = re.compile(r"m\(([mw](,[mw])*)?\)\{([mw][mw];)*\}")
ENDINGS = ["", "m(){}", "(){}", "){}", "w){}", "{}", "}", "w;}", ";}"]


def can_go_on(letters):
    """Whether some text of the form begins with these lexemes: one of the endings completes each beginning."""
    return any(WHOLE.fullmatch(letters + ending) for ending in ENDINGS)


def wrong_place(letters, places, length):
    """The first wrong place of a text without characters that begin no lexeme, or None, by the words of S1.6."""
    for k in range(len(letters)):
        if not can_go_on(letters[:k + 1]):
            return places[k]
    return None if WHOLE.fullmatch(letters) else length


def laid_out(letters, gaps):
    """A text with these lexemes and gaps, the places of its lexemes, and its length."""
    lexeme = {"m": "map", "w": "b1", "n": "20"}
    text = gaps[0]
    places = []
    for k, letter in enumerate(letters):
        places.append(len(text))
        text += lexeme.get(letter, letter) + gaps[(k + 1) % len(gaps)]
    return text, places, len(text)


class WrittenTest(Case):
    def test_the_example(self):
        self.assert_same(map_text(example()), WRITTEN)

    def test_no_posts_and_no_ties(self):
        self.assert_same(map_text(Map([], [])), "map () {\n}\n")
        self.assert_same(map_text(Map(["a"], [])), "map (a) {\n}\n")
        self.assert_same(map_text(Map(["map", "a1"], [])), "map (map, a1) {\n}\n")
        self.assert_same(map_text(Map(["map", "a1"], [("a1", "map")])), "map (map, a1) {\nmap a1;\n}\n")

    def test_what_is_written_is_read(self):
        for posts, ties in all_maps(["d", "map", "a", "c2"]):
            made = Map(posts, ties)
            self.assertIs(read_map(map_text(made)) == made, True)

    def test_long_lists(self):
        posts = [f"p{k}" for k in range(30)]
        ties = list(itertools.combinations(posts, 2))
        text = "map (" + ", ".join(posts) + ") {\n" + "".join(f"{x} {y};\n" for x, y in ties) + "}\n"
        self.assert_same(map_text(Map(posts, ties[::-1])), text)
        self.assertIs(read_map(text) == Map(posts, ties), True)


class ReadTest(Case):
    def test_blanks_and_line_feeds_anywhere_or_none(self):
        for text in [
                "map(a,b,c,d,e){b a;b c;d c;b d;}", "map (a, b, c, d, e) {d c; b a; d b; c b;}",
                "\n\n map\n(a , b\n,c,d,e\n)\n{ a\nb ;b  c; b d ;\n\n\nc d;}\n \n", WRITTEN, " " + WRITTEN + " "]:
            self.assertIs(read_map(text) == example(), True)
        self.assertIs(read_map("map(){}") == Map([], []), True)
        self.assertIs(read_map("  map ( \n ) { \n } ") == Map([], []), True)

    def test_words_of_the_form_are_names(self):
        made = read_map("map (map, ma) { ma map; }")
        self.assertIs(made == Map(["map", "ma"], [("map", "ma")]), True)

    def test_a_tab_is_no_blank(self):
        for k in range(len(WRITTEN) + 1):
            # Within the word map, what is left of it ahead of the tab is a word, but not this one.
            place = 0 if k in (1, 2) else k
            self.assert_raises(BadText, {"place": place}, read_map, WRITTEN[:k] + "\t" + WRITTEN[k:])


class WrongPlaceTest(Case):
    def test_the_examples(self):
        self.assert_raises(BadText, {"place": 4}, read_map, "map [ a")
        self.assert_raises(BadText, {"place": 6}, read_map, "map (a")

    def test_empty_texts(self):
        for text in ["", " ", "\n\n", "   \n"]:
            self.assert_raises(BadText, {"place": len(text)}, read_map, text)

    def test_texts_that_are_cut_off(self):
        for k in range(len(WRITTEN) - 1):
            for behind in ["", " ", "\n", " \n "]:
                text = WRITTEN[:k] + behind
                place = len(text)
                if k in (1, 2):
                    # What is left of the word map is a word, but not this one.
                    place = 0
                self.assert_raises(BadText, {"place": place}, read_map, text)

    def test_single_places(self):
        for text, place in [
                ("mapp (a) {}", 0), ("ma p (a) {}", 0), ("(a) {}", 0), ("map a", 4), ("map (,a) {}", 5),
                ("map (a,) {}", 7), ("map (a b) {}", 7), ("map (a;b) {}", 6), ("map (a)) {}", 7), ("map (a) (", 8),
                ("map (1) {}", 5), ("map (1a) {}", 5), ("map (a, 0) {}", 8), ("map (a) {a;}", 10),
                ("map (a) {a b}", 12), ("map (a) {a b c;}", 13), ("map (a) {a, b;}", 10), ("map (a) {;}", 9),
                ("map (a) {a 1;}", 11), ("map (a) {} }", 11), ("map (a) {} map", 11), ("map (a) {};", 10),
                ("Map (a) {}", 0), ("map (A) {}", 5), ("map (a) {} -", 11), ("map (a) {} 7", 11),
                ("map (abcdefghijklm) {}", 5), ("mapmapmapmapm", 0), ("map (a) {a abcdefghijklm;}", 11),
                ("map (a) {}abcdefghijklm", 10)]:
            self.assert_raises(BadText, {"place": place}, read_map, text)

    def test_a_wrong_lexeme_ahead_of_a_wrong_character(self):
        self.assert_raises(BadText, {"place": 4}, read_map, "map a [")
        self.assert_raises(BadText, {"place": 0}, read_map, "a [")
        self.assert_raises(BadText, {"place": 6}, read_map, "map ( [")
        self.assert_raises(BadText, {"place": 6}, read_map, "map ( [ ; 1")
        self.assert_raises(BadText, {"place": 7}, read_map, "map (a [ b) {}")

    def test_all_rows_of_up_to_five_lexemes(self):
        for many in range(6):
            for letters in itertools.product("mwn(){},;", repeat=many):
                self.agree("".join(letters), [" "])

    def test_one_or_two_changes_of_a_whole_text(self):
        whole = "m(w,m,w){wm;ww;mw;}"
        alphabet = ["", "m", "w", "n", "(", ")", "{", "}", ",", ";"]
        for k in range(len(whole) + 1):
            for letter in alphabet:
                for gaps in [[" "], ["", " \n"], ["\n", "  ", " "]]:
                    self.agree(whole[:k] + letter + whole[k:], gaps)
                    self.agree(whole[:k] + letter + whole[k + 1:], gaps)
                    self.agree(whole[:k] + letter, gaps)
        for k in range(len(whole)):
            for j in range(k + 1, len(whole)):
                self.agree(whole[:k] + whole[k + 1:j] + whole[j + 1:], [" "])
                self.agree(whole[:k] + whole[j] + whole[k + 1:j] + whole[k] + whole[j + 1:], [" "])

    def agree(self, letters, gaps):
        if "" in gaps and re.search("[mwn][mwn]", letters):
            # Without a gap two words would be one.
            gaps = [" ", "\n"]
        text, places, length = laid_out(letters, gaps)
        place = wrong_place(letters, places, length)
        try:
            read_map(text)
            found = None
        except BadText as error:
            found = error.place
        except BadMap:
            found = None
        self.assertEqual(found, place, text)


class BadMapTest(Case):
    def test_what_a_text_tells_wrongly(self):
        for text, path in [
                ("map (a, a) {}", (0, 1)), ("map (a, b, c, b, a) {}", (0, 3)), ("map (a) {a b;}", (1, 0, 1)),
                ("map () {a b;}", (1, 0, 0)), ("map (a, b) {a b; b a;}", (1, 1)), ("map (a, b) {a b; a b;}", (1, 1)),
                ("map (a, b) {b b;}", (1, 0)), ("map (a, b) {a b; x b; a a;}", (1, 1, 0)),
                ("map (a, a) {x y;}", (0, 1)), ("map (a, b) {a a; x y;}", (1, 0))]:
            self.assert_raises(BadMap, {"path": path}, read_map, text)

    def test_a_wrong_place_comes_first(self):
        for text, place in [("map (a, a) {", 12), ("map (a, a) {x y;} ;", 18), ("map (a) {b b; 3", 14)]:
            self.assert_raises(BadText, {"place": place}, read_map, text)


class GreatTextTest(Case):
    def test_many_posts(self):
        names = [f"p{k}" for k in range(3200)]
        text = ("map(" + ",".join(names) + "){}").ljust(20000)
        self.assertEqual(len(text), 20000)
        made = read_map(text)
        self.assert_same(made.posts(), names)
        self.assertIs(read_map(map_text(made)) == made, True)
        self.assert_raises(BadText, {"place": 20000}, read_map, text.replace("}", " "))
        self.assert_raises(BadText, {"place": 19999}, read_map, text[:-1] + "!")

    def test_many_ties(self):
        names = [f"{first}{last}" for first in "abcdefghij" for last in "abcdefgh"]
        ties = list(itertools.combinations(names, 2))[:3100]
        text = ("map(" + ",".join(names) + "){" + "".join(f"{y} {x};" for x, y in ties) + "}").rjust(20000, "\n")
        self.assertEqual(len(text), 20000)
        made = read_map(text)
        self.assert_same(made.ties(), ties)
        self.assertIs(read_map(map_text(made)) == made, True)
        again = text.replace("}", "") + "ab aa;}"
        self.assert_raises(BadMap, {"path": (1, 3100)}, read_map, again)
