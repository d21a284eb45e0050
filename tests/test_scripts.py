"""Scripts, their prices and their texts: S5.3, S5.5, S5.7, S1.5, S1.6 and the interface, crossties/scripts.py."""

import itertools
import random
import re

from crossties.errors import BadStep, BadText
from crossties.maps import Map
from crossties.parties import Party
from crossties.scripts import (
    first_bad, price, read_script, script_back, script_text, stands_along, walked)
from crossties.stands import Stand, gathered

from tests import plain
from tests.samples import (
    FORK_WORLD, RING_WORLD, Case, band, deep, made_stand, no_lists, no_posts, random_worlds, some, words)
from tests.texts import ROWS, FormCase

SCRIPT = [("u", "b"), ("v", "d"), ("u", "c")]
TEXT = "script {\nu b;\nv d;\nu c;\n}\n"


def fork():
    return made_stand(FORK_WORLD, ("a", "b"))


def random_script(world, row, many, choose):
    script = []
    for _ in range(many):
        steps = plain.steps(world, row)
        if steps:
            script.append(choose.choice(steps))
            row = plain.after(world, row, script[-1])
    return script


class ExampleTest(Case):
    def test_the_script(self):
        rows = [("a", "b"), ("b", "b"), ("b", "d"), ("c", "d")]
        self.assert_same([stand.posts() for stand in stands_along(fork(), SCRIPT)], rows)
        self.assert_same(walked(fork(), SCRIPT).posts(), ("c", "d"))
        back = script_back(fork(), SCRIPT)
        self.assert_same(back, [("u", "b"), ("v", "b"), ("u", "a")])
        self.assertIs(walked(walked(fork(), SCRIPT), back) == fork(), True)
        self.assertIs(first_bad(fork(), SCRIPT), None)
        self.assert_same(price(fork().party(), [2, 5], SCRIPT), 9)
        self.assert_same(price(fork().party(), [2, 5], back), 9)

    def test_another_sequence_is_no_script(self):
        value = [("v", "d"), ("u", "b"), ("u", "c")]
        self.assert_same(first_bad(fork(), value), 0)
        for call in [stands_along, walked, script_back]:
            self.assert_raises(BadStep, {"number": 0}, call, fork(), value)
        self.assert_same(first_bad(fork(), [("u", "b"), ("v", "c"), ("u", "a"), ("u", "b")]), 2)

    def test_the_text(self):
        self.assert_same(script_text(SCRIPT), TEXT)
        self.assert_same(read_script(TEXT), SCRIPT)


class EmptyTest(Case):
    def test_the_empty_script(self):
        for stand in [fork(), made_stand(RING_WORLD, tuple("abcd")), Stand(Map([], []), Party([], []), ())]:
            for script in [[], ()]:
                self.assertEqual(stands_along(stand, script), [stand])
                self.assertIs(walked(stand, script) == stand, True)
                self.assert_same(script_back(stand, script), [])
                self.assertIs(first_bad(stand, script), None)
                self.assert_same(price(stand.party(), [1] * len(stand.posts()), script), 0)
        self.assert_same(script_text([]), "script {\n}\n")
        self.assert_same(read_script(" script{ } \n"), [])


class SmallWorldsTest(Case):
    def test_scripts_and_the_same_taken_back(self):
        choose = random.Random(12)
        for world in random_worlds(100, 12):
            for row in some(plain.stands(*world), 2, 12):
                script = random_script(world, row, choose.randrange(9), choose)
                stand = made_stand(world, row)
                rows = [row]
                for step in script:
                    rows.append(plain.after(world, rows[-1], step))
                for value in [script, tuple(script)]:
                    stands = stands_along(stand, value)
                    self.assertIs(type(stands), list)
                    self.assert_same([there.posts() for there in stands], rows)
                    self.assert_same(walked(stand, value).posts(), rows[-1])
                    self.assertIs(first_bad(stand, value), None)
                back = script_back(stand, script)
                self.assert_same([there.posts() for there in stands_along(walked(stand, script), back)], rows[::-1])
                self.assert_same(script_back(walked(stand, script), back), script)
                prices = [choose.choice([0, 1, 3, 10 ** 12]) for _ in row]
                wanted = sum(prices[world[2].index(thing)] for thing, _ in script)
                self.assert_same(price(stand.party(), prices, script), wanted)
                self.assert_same(price(stand.party(), tuple(prices), back), wanted)

    def test_every_script_of_two_steps(self):
        for world in random_worlds(15, 13, 4, 2):
            pairs = list(itertools.product(world[2], world[0]))
            for row in some(plain.stands(*world), 2, 13):
                stand = made_stand(world, row)
                for script in itertools.product(pairs, repeat=2):
                    ends = [plain.leads(world, row, script[:k]) for k in range(3)]
                    wanted = None if ends[2] is not None else ends.index(None) - 1
                    self.assert_same(first_bad(stand, list(script)), wanted)
                    if wanted is None:
                        self.assert_same(walked(stand, script).posts(), ends[2])
                    else:
                        self.assert_raises(BadStep, {"number": wanted}, walked, stand, script)


class SixtyStepsTest(Case):
    def setUp(self):
        self.stand = gathered(band(16, 1, words(16)), Party(words(4, "t"), [("t0", "t1"), ("t2", "t3")]), "p0")
        self.script = [(thing, f"p{k}") for k in range(1, 16) for thing in words(4, "t")]

    def test_sixty_steps(self):
        self.assertEqual(len(self.script), 60)
        self.assert_same(walked(self.stand, self.script).posts(), ("p15",) * 4)
        self.assertEqual(len(stands_along(self.stand, self.script)), 61)
        back = script_back(self.stand, self.script)
        self.assert_same(back[:2], [("t3", "p14"), ("t2", "p14")])
        self.assert_same(walked(walked(self.stand, self.script), back).posts(), ("p0",) * 4)
        self.assert_same(price(self.stand.party(), [10 ** 12, 1, 0, 10 ** 6], self.script), 15 * (10 ** 12 + 10 ** 6 + 1))
        self.assert_same(read_script(script_text(self.script)), self.script)

    def test_a_wrong_member_anywhere(self):
        wrong = [("t0", "zz"), ["t0", "p1"], None, ("t9", "p1"), ("t0",), (["t0"], "p1"), "t0"]
        for k in range(60):
            for value in [wrong[k % len(wrong)], self.script[k - 1]]:
                changed = self.script[:k] + [value] + self.script[k + 1:]
                self.assert_same(first_bad(self.stand, changed), k)
                for call in [stands_along, walked, script_back]:
                    self.assert_raises(BadStep, {"number": k}, call, self.stand, tuple(changed))
                    self.assert_raises(BadStep, {"number": k}, call, self.stand, changed[:k + 1] + [None, []])


class PriceTest(Case):
    def test_steps_that_cannot_be_done(self):
        party = Party(["u", "v"], [("u", "v")])
        self.assert_same(price(party, [2, 5], [("v", "zz"), ("u", "a"), ("v", "a"), ("v", "a")]), 17)
        self.assert_same(price(party, [0, 0], [("v", "a"), ("u", "a")]), 0)
        self.assert_same(price(party, [0, 10 ** 12], [("v", "a")] * 60 + [("u", "a")]), 60 * 10 ** 12)


class WrongValuesTest(Case):
    def test_first_bad_of_what_is_no_list(self):
        for value in no_lists() + ["ub", {("u", "b"): 1}]:
            self.assert_same(first_bad(fork(), value), 0)

    def test_members_of_all_kinds(self):
        for value in no_posts() + [["u", "b"], ("u", "b", "b"), deep(("u", "b"))]:
            for place in range(4):
                script = SCRIPT[:place] + [value] + SCRIPT[place:]
                self.assert_same(first_bad(fork(), script), place)
                for call in [stands_along, walked, script_back]:
                    self.assert_raises(BadStep, {"number": place}, call, fork(), script)
                    self.assert_raises(BadStep, {"number": place}, call, fork(), (*script, value))


class ScriptPlaceTest(FormCase):
    first = "script"
    whole = re.compile("k" + ROWS)
    endings = ["", "k{}", "{}", "}", "w;}", ";}"]

    def read(self, text):
        return read_script(text)

    def test_all_rows_of_up_to_five_lexemes(self):
        self.all_short_rows(5)

    def test_one_or_two_changes_of_a_whole_text(self):
        self.changes_of("k{kw;ww;kw;}")

    def test_texts_that_are_cut_off(self):
        self.cut_off(TEXT)

    def test_characters_that_begin_no_lexeme(self):
        self.wrong_characters(TEXT)

    def test_single_places(self):
        for text, place in [
                ("", 0), ("scrip {}", 0), ("stand {}", 0), ("script (", 7), ("script {u}", 9), ("script {u b}", 11),
                ("script {u b; v}", 14), ("script {;}", 8), ("script {} ;", 10), ("script {u 1;}", 10),
                ("script {u b; }}", 14), ("script {u b, v d;}", 11), ("script {u abcdefghijklm;}", 10)]:
            self.assert_raises(BadText, {"place": place}, read_script, text)


class TextTest(Case):
    def test_pairs_of_any_words(self):
        pairs = [("script", "map"), ("a", "a"), ("zz", "abcdefghijkl"), ("script", "map")]
        self.assert_same(script_text(pairs), "script {\nscript map;\na a;\nzz abcdefghijkl;\nscript map;\n}\n")
        self.assert_same(script_text(tuple(pairs)), script_text(pairs))
        self.assert_same(read_script(script_text(pairs)), pairs)
        self.assert_same(read_script("script{script map;a a;zz\nabcdefghijkl ; script map;}"), pairs)

    def test_twenty_thousand_characters(self):
        text = "script {" + "a b;" * 4997 + "}"
        self.assertLessEqual(len(text), 20000)
        self.assert_same(read_script(text.ljust(20000)), [("a", "b")] * 4997)
        self.assert_raises(BadText, {"place": 20000}, read_script, text[:-1].ljust(20000))
        self.assert_raises(BadText, {"place": 19999}, read_script, text.ljust(19999) + "0")
