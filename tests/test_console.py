"""Consoles: S10.8, S1.5, S1.6, S10.9 and the interface, crossties/console.py."""

import itertools
import random
import re

from crossties.console import Console
from crossties.errors import NoRoad, TieError, UnknownName
from crossties.house import House
from crossties.longrings import judge_ring
from crossties.maps import Map
from crossties.parties import Party
from crossties.stands import Stand, gathered
from crossties.ways import judge_way

from tests import plain, plainhouses
from tests.samples import BAD_MAPS, KITE_WORLD, Case, band, made_stand, plain_map, random_worlds, words

# A letter for the members of each form: two names, one name, none, join and goal.
FORMS = {
    "A": ["step", "bond", "unbond", "tie", "untie"], "B": ["nail", "free", "leave", "keep", "at", "where", "to"],
    "C": ["undo", "redo", "show", "gap", "left", "paid", "ring", "way", "nails"], "D": ["join"], "E": ["goal"]}
WHOLE = re.compile(r"Aww|Bw|C|Dww\((w(,w)*)?\)|E(\((w(,w)*)?\))?")
ENDINGS = ["", "C", "w", "ww", "()", "w()", "ww()", ")", "w)"]
LEXEMES = {"n": "20", "A": "tie", "B": "nail", "C": "show", "D": "join", "E": "goal"}


def ring_house():
    made = Map(list("nesw"), [("n", "e"), ("e", "s"), ("s", "w"), ("w", "n")])
    return House(Stand(made, Party(list("abcd"), [("a", "b"), ("b", "c"), ("c", "d"), ("a", "d")]), list("nesw")))


def kite_house():
    return House(made_stand(KITE_WORLD, ("a", "b", "b")))


def wrong_place(letters, places, length):
    """The first wrong place of a line by the words of S1.6, or None; behind the first word each word is a name."""
    letters = letters[:1] + re.sub("[A-E]", "w", letters[1:])
    for k in range(len(letters)):
        if not any(WHOLE.fullmatch(letters[:k + 1] + ending) for ending in ENDINGS):
            return places[k]
    return None if WHOLE.fullmatch(letters) else length


class TextsTest(Case):
    def agree(self, letters, gaps, names=("a", "to", "goal", "x1")):
        """Compare the first wrong place of a line with these lexemes; w stands for a name, one after another."""
        if "" in gaps and re.search("[A-Ewn][A-Ewn]", letters):
            # Without a gap two words would be one.
            gaps = [" ", "\n"]
        text, places = gaps[0], []
        for k, letter in enumerate(letters):
            places.append(len(text))
            text += LEXEMES.get(letter, names[k % len(names)] if letter == "w" else letter) + gaps[(k + 1) % len(gaps)]
        if letters[:1] == "w":
            text = text.replace(names[0], "walk", 1)
            places = places[:1] + [place + 4 - len(names[0]) for place in places[1:]]
        place = wrong_place(letters, places, len(text))
        answer = Console(kite_house()).say(text)
        if place is None:
            self.assertFalse(answer.startswith("no BadText"), text)
        else:
            self.assertEqual(answer, f"no BadText {place}", text)

    def test_all_short_lines(self):
        for many in range(4):
            for letters in itertools.product("ABCDEwn(),;", repeat=many):
                self.agree("".join(letters), [" "])

    def test_changes_of_all_forms(self):
        for whole in ["Aww", "Bw", "C", "Dww()", "Dww(w)", "Dww(w,w,w)", "E", "E()", "E(w)", "E(w,w,w)"]:
            for k in range(len(whole) + 1):
                for letter in ["", *"ABCDEwn(),;{}"]:
                    for gaps in [[" "], ["", " \n"], ["\n", "  ", " "]]:
                        self.agree(whole[:k] + letter + whole[k:], gaps)
                        self.agree(whole[:k] + letter + whole[k + 1:], gaps)
                        self.agree(whole[:k] + letter, gaps)
            for i, j in itertools.combinations(range(len(whole)), 2):
                self.agree(whole[:i] + whole[i + 1:j] + whole[j + 1:], [" "])
                self.agree(whole[:i] + whole[j] + whole[i + 1:j] + whole[i] + whole[j + 1:], [" "])

    def test_every_first_word(self):
        members = {"A": "a b", "B": "a", "C": "", "D": "a b ()", "E": "(a, b)"}
        for letter, firsts in FORMS.items():
            for first in firsts:
                line = f"{first} {members[letter]}".strip()
                self.assertFalse(Console(kite_house()).say(line).startswith("no BadText"), line)
                self.assertEqual(Console(kite_house()).say(line + " q"), f"no BadText {len(line) + 1}")
                self.assertEqual(Console(kite_house()).say(f" {first}x"), "no BadText 1")
                if letter not in "CE":
                    self.assertEqual(Console(kite_house()).say(f"{first}\n "), f"no BadText {len(first) + 2}")
                    self.assertEqual(Console(kite_house()).say(f"{first} ({first})"), f"no BadText {len(first) + 1}")

    def test_lines_cut_off(self):
        line = "join x a (u, v)"
        for k in range(len(line)):
            for behind in ["", " ", " \n"]:
                place = 0 if 0 < k < 4 else k + len(behind)
                self.assert_same(Console(kite_house()).say(line[:k] + behind), f"no BadText {place}")
        self.assert_same(Console(kite_house()).say(line), "1")

    def test_wrong_characters(self):
        for line in ["join x a (u, v)", "goal (a, b, b)", "step u b", "show"]:
            first = line.partition(" ")[0]
            for k in range(len(line) + 1):
                for char in "\tA-~[_.":
                    place = 0 if 0 < k < len(first) else k
                    self.assert_same(Console(kite_house()).say(line[:k] + char + line[k:]), f"no BadText {place}")

    def test_lexemes(self):
        for line, place in [
                ("", 0), ("  \n", 3), ("step u b;", 8), ("step 1u b", 5), ("step u 007", 7), ("step u b 0", 9),
                ("abcdefghijklm", 0), ("step abcdefghijklm b", 5), ("nail u\t", 6), ("goal ()()", 7), ("goal (a b)", 8),
                ("goal (a,)", 8), ("goal (,a)", 6), ("goal {a}", 5), ("goal a", 5), ("join x a", 8), ("join x a b", 9),
                ("show show", 5), ("walk", 0), ("5", 0), ("(", 0), (" 12", 1), ("goal (", 6), ("goal (a,", 8), ("Show", 0)]:
            self.assert_same(Console(kite_house()).say(line), f"no BadText {place}")

    def test_lines_laid_out_otherwise(self):
        for line in ["goal(d,d,c)", " goal\n( d ,d , c )\n", "goal (d, d, c)"]:
            house = kite_house()
            self.assert_same(Console(house).say(line), "1")
            self.assert_same(house.done(), [("goal", ("d", "d", "c"))])
        house = kite_house()
        self.assert_same(Console(house).say("\n step\nu\n b"), "1")
        self.assert_same(Console(house).say("join x b(u,v)"), "2")

    def test_a_long_line(self):
        names = ", ".join(["a"] * 6000)
        line = f"goal ({names})"
        self.assert_same(Console(kite_house()).say(line), "no BadAct stand")
        self.assert_same(Console(kite_house()).say(line[:-1]), f"no BadText {len(line) - 1}")
        self.assert_same(Console(kite_house()).say("show" + " " * 19990), "u a; v b; w b")
        self.assert_same(Console(kite_house()).say(" " * 20000), "no BadText 20000")


class ExampleTest(Case):
    def test_the_long_ring(self):
        house = ring_house()
        console = Console(house)
        self.assertIs(console.house(), house)
        answers = [
            ("goal (e, s, w, n)", "1"), ("gap", "4"), ("left", "none"), ("way", "none"), ("step a e", "no BadAct step"),
            ("tie n s", "2"), ("ring", "none"), ("left", "4"), ("step b s", "3"), ("untie s n", "no BadAct near"),
            ("left", "3"), ("step d n", "4"), ("paid", "2"), ("show", "a n; b s; c s; d n"), ("at s", "b, c"),
            ("at w", ""), ("at x", "no UnknownName"), ("where b", "s"), ("where n", "no UnknownName"),
            ("keep start", "1"), ("undo", "3"), ("to start", "1"), ("redo", "4"), ("to start", "0"),
            ("redo", "no NothingDone"), ("untie n s", "no BadAct near")]
        for line, answer in answers:
            self.assert_same(console.say(line), answer)
        ring = Console(ring_house()).say("ring").split(" ")
        self.assertIs(judge_ring(house.would([])[0].map(), tuple(ring)), False)
        self.assertIs(judge_ring(ring_house().stand().map(), tuple(ring)), True)


class AnswersTest(Case):
    def say(self, house, *lines):
        return [Console(house).say(line) for line in lines]

    def test_acts_of_all_sorts(self):
        house = kite_house()
        lines = ["join x a (v, u)", "goal (a, b, c, a)", "nail x", "tie d a", "unbond w v", "untie a d", "step w c",
                 "bond v w", "free x", "goal", "leave x", "goal (a, b, b)", "leave u", "leave v", "leave w", "goal ()",
                 "join step b ()", "join goal b (step)", "step step a", "nail goal"]
        self.assert_same(self.say(house, *lines), [str(k + 1) for k in range(len(lines))])
        self.assert_same(house.done(), [
            ("join", "x", "a", ("v", "u")), ("goal", ("a", "b", "c", "a")), ("nail", "x"), ("tie", "d", "a"),
            ("unbond", "w", "v"), ("untie", "a", "d"), ("step", "w", "c"), ("bond", "v", "w"), ("free", "x"),
            ("goal", None), ("leave", "x"), ("goal", ("a", "b", "b")), ("leave", "u"), ("leave", "v"), ("leave", "w"),
            ("goal", ()), ("join", "step", "b", ()), ("join", "goal", "b", ("step",)), ("step", "step", "a"),
            ("nail", "goal")])
        self.assert_same(self.say(house, "undo", "undo", "redo", "show", "gap"), ["19", "18", "19", "step a; goal b", "1"])

    def test_words_of_acts(self):
        house = kite_house()
        self.say(house, "goal (a, b, d)", "nail v")
        for line, word in [
                ("step u d", "step"), ("step v c", "nail"), ("nail v", "thing"), ("nail w", "goal"), ("free u", "thing"),
                ("goal (a, b)", "stand"), ("goal ()", "stand"), ("goal (a, c, c)", "nail"), ("bond u x", "thing"),
                ("bond u v", "bond"), ("unbond u w", "bond"), ("bond u w", "goal"), ("tie a x", "post"), ("tie a b", "tie"),
                ("untie a d", "tie"), ("untie a b", "near"), ("untie b d", "goal"), ("join u a ()", "thing"),
                ("join x q ()", "post"), ("join x a (x)", "others"), ("join x a (u, u)", "others"),
                ("join x d (u)", "near"), ("join x a (w)", "goal"), ("leave x", "thing")]:
            self.assert_same(self.say(house, line, "paid"), [f"no BadAct {word}", "0"])
        self.assert_same(house.done(), [("goal", ("a", "b", "d")), ("nail", "v")])

    def test_too_many(self):
        made = band(3, 1, words(3))
        house = House(gathered(made, Party(words(16, "t"), []), "p0"))
        self.assert_same(self.say(house, "join x p0 ()"), ["no BadAct many"])
        for k in range(120):
            self.assert_same(self.say(house, f"step t0 p{1 - k % 2}"), [str(k + 1)])
        self.assert_same(self.say(house, "nail t0", "nail x", "paid", "undo", "redo"), [
            "no BadAct full", "no BadAct thing", "120", "119", "120"])

    def test_what_is_asked(self):
        house = kite_house()
        asked = ["show", "gap", "left", "paid", "ring", "way", "nails"]
        self.assert_same(self.say(house, *asked), ["u a; v b; w b", "none", "none", "0", "none", "none", ""])
        self.say(house, "goal (d, b, b)", "nail w", "nail v")
        self.assert_same(self.say(house, *asked), [
            "u a; v b; w b", "2", "2", "0", "none", Console(house).say("way"), "v, w"])
        way = [tuple(step.split(" ")) for step in Console(house).say("way").split("; ")]
        self.assertIs(judge_way(house.stand(), house.goal(), way), None)
        for thing, post in way:
            Console(house).say(f"step {thing} {post}")
        self.assert_same(self.say(house, *asked), ["u d; v b; w b", "0", "0", "2", "none", "", "v, w"])
        self.assert_same(self.say(house, "at b", "at d", "at a", "where u", "where w"), ["v, w", "u", "", "d", "b"])
        self.assert_same(self.say(house, "at u", "at x", "where b", "where x", "to u", "to x"), ["no UnknownName"] * 6)

    def test_a_house_without_things(self):
        for made in [Map([], []), plain_map(2)]:
            house = House(Stand(made, Party([], []), ()))
            self.assert_same(self.say(house, "show", "nails", "goal ()", "gap", "left", "way", "paid", "at p0"), [
                "", "", "1", "0", "0", "", "0", "" if made.posts() else "no UnknownName"])

    def test_rings(self):
        for made in BAD_MAPS:
            house = House(gathered(made, Party(["u"], []), made.posts()[0]))
            answer = Console(house).say("ring")
            self.assertIs(judge_ring(made, tuple(answer.split(" "))), True)
            self.assertEqual(" ".join(answer.split()), answer)
            self.say(house, f"goal ({made.posts()[0]})")
            self.assert_same(self.say(house, "gap", "left", "way"), ["0", "none", "none"])

    def test_marks(self):
        house = kite_house()
        self.assert_same(self.say(house, "keep keep", "step u c", "keep to", "keep keep", "to keep", "to to"), [
            "1", "1", "2", "2", "0", "0"])
        self.assert_same(self.say(house, "step v d", "to keep", "tie a d", "to to", "undo", "unbond u v", "to to"), [
            "2", "1", "3", "no UnlikeMaps", "2", "3", "no UnlikeParties"])
        self.assert_same(house.marks(), ["keep", "to"])

    def test_no_road(self):
        house = House(Stand(Map(["a", "b"], []), Party(["u", "v"], []), ["a", "a"]))
        answers = self.say(house, "keep m", "tie a b", "step v b", "untie b a", "to m", "goal (a, a)", "gap", "left", "way")
        self.assert_same(answers, ["1", "1", "2", "3", "no NoRoad v", "4", "none", "none", "none"])
        self.assert_raises(NoRoad, {"thing": "v"}, house.gap_to, "m")

    def test_nothing_to_undo(self):
        self.assert_same(self.say(kite_house(), "undo", "redo"), ["no NothingDone"] * 2)

    def test_consoles_of_one_house(self):
        house = kite_house()
        one, other = Console(house), Console(house)
        self.assertIs(one.house(), other.house())
        self.assert_same(one.say("step u b"), "1")
        self.assert_same(other.say("show"), "u b; v b; w b")
        house.do(("step", "u", "c"))
        self.assert_same(one.say("where u"), "c")
        self.assert_same(other.say("undo"), "1")
        self.assert_same(house.stand().posts(), ("b", "b", "b"))
        twin = Console(house.twin())
        self.assert_same(twin.say("step u d"), "2")
        self.assert_same(one.say("where u"), "b")


class HistoriesTest(Case):
    def line(self, act):
        members = ["(" + ", ".join(part) + ")" if isinstance(part, tuple) else part for part in act if part is not None]
        return " ".join(members)

    def test_histories(self):
        """A console does what a house does that is told the same, and nothing else."""
        for seed, world in enumerate(random_worlds(60, 161, 5, 3)):
            choose = random.Random(seed)
            row = choose.choice(plain.stands(*world))
            house, console = House(made_stand(world, row)), Console(House(made_stand(world, row)))
            state = plainhouses.PlainState(world, row)
            for _ in range(20):
                act = plainhouses.random_act(choose, state)
                word = plainhouses.word(state, act)
                if word is None:
                    state = plainhouses.after(state, act)
                    self.assert_same(console.say(self.line(act)), str(house.do(act)))
                else:
                    self.assert_same(console.say(self.line(act)), f"no BadAct {word}")
                self.assertIs(console.house() == house, True)
                self.asked(console, house)

    def asked(self, console, house):
        stand = house.stand()
        for line, value in [("gap", house.gap()), ("left", house.left()), ("paid", house.paid())]:
            self.assert_same(console.say(line), "none" if value is None else str(value))
        self.assert_same(console.say("nails"), ", ".join(house.nails()))
        self.assert_same(console.say("show"), "; ".join(f"{u} {x}" for u, x in zip(stand.party().things(), stand.posts())))
        self.assert_same(console.say("way"), "none" if house.way() is None else "; ".join(map(" ".join, house.way())))
        for post in stand.map().posts():
            self.assert_same(console.say(f"at {post}"), ", ".join(stand.things_at(post)))
        self.assertIs(console.house() == house, True)

    def test_refused_lines_change_nothing(self):
        house = kite_house()
        Console(house).say("step u c")
        Console(house).say("undo")
        before = house.twin()
        for line in ["", "step u d", "redo x", "goal (a)", "to x", "at u", "where a", "keep", "keep 1", "undo;", "tie a b"]:
            self.assertTrue(Console(house).say(line).startswith("no "))
            self.assertIs(house == before, True)

    def test_errors_of_the_house_are_of_the_package(self):
        for line in ["where x", "at x", "to x"]:
            self.assert_same(Console(kite_house()).say(line), f"no {UnknownName.__name__}")
        self.assertTrue(issubclass(NoRoad, TieError))
