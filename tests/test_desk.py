"""A desk: rows of words, and what it says to them."""

import unittest
from fractions import Fraction
from random import Random

from samples import as_tuple

from stufflists import errors
from stufflists.desk import Desk
from stufflists.fractions import fraction_text
from stufflists.house import House
from stufflists.linetexts import lines_of
from stufflists.rowtexts import read_row

STORY = (
    ("wares", ""),
    ("ware choc cocoa 1 sugar 2", "choc"),
    ("ware cake flour 6 choc 3 water 3", "cake"),
    ("wares", "cake choc"),
    ("label choc", "sugar, cocoa"),
    ("label cake", "flour, choc (sugar, cocoa), water"),
    ("cook cake 2", ""),
    ("true cake flour", "3/5"),
    ("true cake sugar", "1/5"),
    ("true cake nut", "0"),
    ("share cake flour", "1/3 to 1"),
    ("share cake cocoa", "0 to 1/4"),
    ("share cake nut", "0 to 0"),
    ("may choc nut", "cake choc"),
    ("may cake egg nut", "cake"),
    ("label cake", "flour, choc (sugar, cocoa), water; may hold egg, nut"),
    ("tell cake flour choc", "cake"),
    ("label cake", "flour 3/5, choc 3/10 (sugar, cocoa), water; may hold egg, nut"),
    ("lines cake", "flour 3/5; choc 3/10;   sugar;   cocoa; water; may hold egg, nut"),
    ("lines choc", "sugar; cocoa; may hold nut"),
    ("share cake flour", "3/5 to 3/5"),
    ("share cake water", "1/10 to 1/10"),
    ("share cake sugar", "3/20 to 3/10"),
    ("share cake choc", "3/10 to 3/10"),
    ("harm cake cocoa", "in"),
    ("harm cake choc fish", "in"),
    ("harm cake egg", "may"),
    ("harm cake fish egg nut", "may"),
    ("harm choc egg", "not"),
    ("harm choc egg fish soy", "not"),
    ("ware candy sugar 3 cocoa 1", "candy"),
    ("pair choc candy", "one"),
    ("pair candy choc", "one"),
    ("pair cake candy", "never"),
    ("pair cake cake", "one"),
    ("tell candy cocoa", "candy"),
    ("tell choc cocoa", "choc"),
    ("pair choc candy", "never"),
    ("tell choc", "choc"),
    ("may cake", "cake"),
    ("label cake", "flour 3/5, choc 3/10 (sugar, cocoa), water; may hold nut"),
    ("may choc", "cake choc"),
    ("label cake", "flour 3/5, choc 3/10 (sugar, cocoa), water"),
    ("cook cake 3", "cake"),
    ("label cake", "flour 2/3, choc 1/3 (sugar, cocoa)"),
    ("true cake water", "0"),
    ("drop choc", "cake"),
    ("label cake", "flour 2/3, choc 1/3"),
    ("wares", "cake candy"),
    ("ware choc cocoa 1", "cake choc"),
    ("drop cake", ""),
    ("drop choc", ""),
    ("drop candy", ""),
    ("wares", ""),
)

ROWS = ("ware tea leaf 1/2 water 3", "cook cake 1", "may cake soy", "may cake", "tell cake flour rye", "tell cake",
        "drop cake", "label cake", "lines cake", "true cake choc", "share cake choc", "harm cake nut", "harm cake nut egg",
        "pair cake choc", "wares")


def bakery():
    desk = Desk()
    for row in ("ware choc cocoa 1 sugar 2", "ware cake flour 6 choc 3 water 3", "may choc nut", "tell cake choc",
                "cook cake 2"):
        desk.say(row)
    return desk


def state(desk):
    """All that a desk says of its wares."""
    wares = desk.say("wares").split()
    return [(ware, desk.say("label " + ware), [desk.say(f"true {ware} {name}") for name in ("water", "cocoa", "choc")])
            for ware in wares]


class Said(unittest.TestCase):
    def test_a_story(self):
        desk = Desk()
        for row, text in STORY:
            self.assertEqual(desk.say(row), text, row)

    def test_each_row_is_known(self):
        for row in ROWS:
            self.assertIs(type(bakery().say(row)), str)

    def test_arguments_by_their_names(self):
        self.assertEqual(bakery().say(row="wares"), "cake choc")

    def test_put_anew_has_nothing_cooked_told_or_held(self):
        desk = bakery()
        self.assertEqual(desk.say("ware cake flour 6 choc 3 water 3"), "cake")
        self.assertEqual(desk.say("label cake"), "flour, choc (sugar, cocoa), water; may hold nut")
        self.assertEqual(desk.say("true cake water"), "1/4")
        self.assertEqual(desk.say("ware choc cocoa 1 sugar 2"), "cake choc")
        self.assertEqual(desk.say("label choc"), "sugar, cocoa")

    def test_each_deed_changes_one_thing_alone(self):
        desk = Desk()
        desk.say("ware bread rye 4 water 3")
        desk.say("cook bread 2")
        desk.say("may bread nut")
        desk.say("tell bread rye")
        self.assertEqual(desk.say("label bread"), "rye 4/5, water; may hold nut")
        self.assertEqual(desk.say("cook bread 1"), "bread")
        self.assertEqual(desk.say("label bread"), "rye 2/3, water; may hold nut")
        self.assertEqual(desk.say("may bread soy egg"), "bread")
        self.assertEqual(desk.say("label bread"), "rye 2/3, water; may hold egg, soy")
        self.assertEqual(desk.say("tell bread water"), "bread")
        self.assertEqual(desk.say("label bread"), "rye, water 1/3; may hold egg, soy")
        self.assertEqual(desk.say("cook bread 0"), "bread")
        self.assertEqual(desk.say("label bread"), "rye, water 3/7; may hold egg, soy")

    def test_several_names_told_of_each_deed(self):
        desk = bakery()
        self.assertEqual(desk.say("ware box cake 1 choc 1"), "box")
        self.assertEqual(desk.say("tell box cake flour"), "box")
        self.assertEqual(desk.say("cook cake 3"), "box cake")
        self.assertEqual(desk.say("may choc milk"), "box cake choc")
        self.assertEqual(desk.say("ware choc cocoa 3 sugar 2"), "box cake choc")
        self.assertEqual(desk.say("drop choc"), "box cake")

    def test_a_wares_own_name_as_a_word(self):
        desk = bakery()
        self.assertEqual(desk.say("may cake cake"), "cake")
        self.assertEqual(desk.say("label cake"), "flour, choc 3/10 (sugar, cocoa), water; may hold cake, nut")
        self.assertEqual(desk.say("harm cake egg"), "not")
        self.assertEqual(desk.say("harm cake cake"), "may")
        self.assertEqual(desk.say("true cake cake"), "0")

    def test_the_same_again_says_nothing(self):
        desk = bakery()
        for row in ("may choc nut", "may choc nut nut", "tell cake choc", "tell cake choc milk", "cook cake 2",
                    "cook choc 0"):
            self.assertEqual(desk.say(row), "", row)

    def test_fractions_of_many_figures(self):
        desk = Desk()
        desk.say("ware tea leaf 12345678901234567891/98765432109876543210 milk 1")
        share = Fraction(1) / (1 + Fraction(12345678901234567891, 98765432109876543210))
        self.assertEqual(desk.say("true tea milk"), fraction_text(as_tuple(share)))

    def test_one_share_where_names_are_within_one_another(self):
        desk = Desk()
        desk.say("ware mix oil 1 rye 3")
        desk.say("ware bread mix 2 oil 1 rye 1")
        self.assertEqual(desk.say("true bread oil"), "3/8")
        self.assertEqual(desk.say("true bread rye"), "5/8")
        self.assertEqual(desk.say("true bread mix"), "1/2")

    def test_against_a_house(self):
        for seed in range(20):
            rng = Random(seed)
            desk, house = Desk(), House()
            for _ in range(20):
                name = rng.choice("abcd")
                parts = [(part, (rng.randint(1, 3), 2)) for part in rng.sample("abcdxyz", rng.randint(1, 3))]
                parts = [(part, (1, 1) if weight == (2, 2) else weight) for part, weight in parts]
                row = " ".join([f"ware {name}"] + [f"{part} {fraction_text(weight)}" for part, weight in parts])
                try:
                    told = house.put(name, parts)
                except (errors.Ring, errors.NoDepth, errors.TooMany) as error:
                    with self.assertRaises(type(error)):
                        desk.say(row)
                else:
                    self.assertEqual(desk.say(row), " ".join(told))
            for name in house.wares():
                label = house.label(name)
                self.assertEqual(read_row(desk.say("label " + name)), label)
                self.assertEqual(desk.say("lines " + name) + "; ", lines_of(label).replace("\n", "; "))


class NoDeeds(unittest.TestCase):
    def assertNoDeed(self, row):
        desk = bakery()
        before = state(desk)
        with self.assertRaises(errors.NoDeed, msg=row) as caught:
            desk.say(row)
        self.assertIsInstance(caught.exception, errors.TextError)
        self.assertEqual(state(desk), before)

    def test_other_kinds(self):
        for thing in (None, 0, 1, True, b"wares", ["wares"], ("wares",), {"wares": 1}, object(), 1.5, str):
            self.assertNoDeed(thing)

    def test_no_words(self):
        for row in ("", " ", "  ", "\n", "cake", "Wares", "ware", "what cake", "WARES", "wares\n", "\twares", ";"):
            self.assertNoDeed(row)

    def test_blanks(self):
        for row in ROWS:
            self.assertNoDeed(" " + row)
            self.assertNoDeed(row + " ")
            self.assertNoDeed(row + "\n")
            self.assertNoDeed(row.replace(" ", "  ", 1) if " " in row else "wa res")
            self.assertNoDeed(row.replace(" ", "\t") if " " in row else "wa\tres")
            self.assertNoDeed(row.replace(" ", "\n") if " " in row else "wa\nres")
            self.assertNoDeed(row.replace(" ", "") if " " in row else "war es")

    def test_a_word_too_many_or_too_few(self):
        for row in ("wares cake", "drop", "drop cake choc", "label", "label cake choc", "lines", "lines cake choc",
                    "true", "true cake", "true cake choc nut", "share", "share cake", "share cake choc nut", "harm",
                    "harm cake", "pair", "pair cake", "pair cake choc cake", "cook", "cook cake", "cook 1",
                    "cook cake 1 2", "cook cake 1 nut", "may", "tell", "ware tea", "ware tea leaf", "ware tea 1",
                    "ware tea leaf 1 water", "ware tea leaf 1 2", "ware tea leaf 1 water 2 milk", "ware leaf 1 water 2"):
            self.assertNoDeed(row)

    def test_words_that_are_no_names(self):
        for word in ("Cake", "cAke", "abcdefghi", "cake1", "1", "-", "ca-ke", "1/2", "cake,", "cake;"):
            for row in ("drop {}", "label {}", "lines {}", "may {}", "tell {}", "cook {} 1", "true {} choc",
                        "true cake {}", "share {} choc", "share cake {}", "harm {} nut", "harm cake {}",
                        "harm cake nut {}", "pair {} cake", "pair cake {}", "may cake {}", "may cake nut {}",
                        "tell cake {}", "tell cake choc {} choc", "ware {} leaf 1", "ware tea {} 1",
                        "ware tea leaf 1 {} 1"):
                self.assertNoDeed(row.format(word))

    def test_words_that_are_no_fractions(self):
        for word in ("x", "one", "1/", "/2", "2/4", "1/1", "0/1", "1/0", "01", "1/02", "+1", "--1", "-0", "1.5", "1,5",
                     "1/2/3", "-", "/", "1/-2", "1_0"):
            for row in ("cook cake {}", "ware tea leaf {}", "ware tea leaf {} water 1", "ware tea leaf 1 water {}"):
                self.assertNoDeed(row.format(word))

    def test_a_sign_put_in_taken_out_or_exchanged(self):
        known = {"ware", "cook", "may", "tell", "drop", "label", "lines", "true", "share", "harm", "pair", "wares"}
        for row in ROWS:
            word = row.split()[0]
            for at in range(len(word)):
                for other in (word[:at] + word[at + 1:], word[:at] + "q" + word[at:], word[:at] + "Q" + word[at + 1:]):
                    if other not in known:
                        self.assertNoDeed(other + row[len(word):])

    def test_words_exchanged(self):
        for row in ("cake label", "cake drop", "cook 1 cake", "ware leaf 1 tea", "ware tea 1 leaf", "ware 1 leaf tea",
                    "cake cook 1", "nut harm cake 1"):
            self.assertNoDeed(row)

    def test_ahead_of_no_ware(self):
        for row in ("drop nowhere cake", "cook nowhere", "cook nowhere x", "true nowhere", "pair nowhere Cake",
                    "pair nowhere", "harm nowhere", "may nowhere Nut", "tell nowhere 1", "share nowhere nut egg"):
            self.assertNoDeed(row)

    def test_ahead_of_what_the_house_refuses(self):
        for row in ("ware water leaf", "ware tea tea x", "ware tea leaf 1 leaf", "ware cake cake 1 nut"):
            self.assertNoDeed(row)


class NoWares(unittest.TestCase):
    def assertNoWare(self, row, name):
        desk = bakery()
        before = state(desk)
        with self.assertRaises(errors.NoWare, msg=row) as caught:
            desk.say(row)
        self.assertEqual(caught.exception.name, name)
        self.assertEqual(state(desk), before)

    def test_each_row(self):
        for row in ("cook {} 1", "may {}", "may {} nut", "tell {}", "tell {} rye", "drop {}", "label {}", "lines {}",
                    "true {} nut", "share {} nut", "harm {} nut", "pair {} cake", "pair cake {}"):
            for name in ("tea", "water", "flour", "cocoa", "abcdefgh", "wares"):
                self.assertNoWare(row.format(name), name)

    def test_the_first_such(self):
        self.assertNoWare("pair tea milk", "tea")
        self.assertNoWare("pair milk tea", "milk")
        self.assertNoWare("pair cake milk", "milk")

    def test_other_names_need_be_no_wares(self):
        desk = bakery()
        for row in ("true cake nowhere", "share cake nowhere", "harm cake nowhere", "may cake nowhere",
                    "tell cake nowhere", "ware tea nowhere 1"):
            desk.say(row)

    def test_ahead_of_what_the_house_refuses(self):
        self.assertNoWare("cook tea 99", "tea")
        self.assertNoWare("cook tea -1", "tea")
        self.assertNoWare("cook water 1", "water")

    def test_a_dropped_one(self):
        desk = bakery()
        desk.say("drop choc")
        with self.assertRaises(errors.NoWare):
            desk.say("label choc")
        with self.assertRaises(errors.NoWare):
            desk.say("drop choc")


class AsTheHouseRefuses(unittest.TestCase):
    def assertRefused(self, error, row, **value):
        desk = bakery()
        before = state(desk)
        with self.assertRaises(error, msg=row) as caught:
            desk.say(row)
        self.assertIs(type(caught.exception), error)
        for name, told in value.items():
            self.assertEqual(getattr(caught.exception, name), told)
        self.assertEqual(state(desk), before)

    def test_put(self):
        self.assertRefused(errors.NoName, "ware water leaf 1", number=-1)
        self.assertRefused(errors.NoPart, "ware tea leaf 0", number=0)
        self.assertRefused(errors.NoPart, "ware tea leaf 1 milk -1/2", number=1)
        self.assertRefused(errors.NoPart, "ware tea leaf 1 milk 2 leaf 3", number=2)
        self.assertRefused(errors.Ring, "ware tea tea 1", names=["tea"])
        self.assertRefused(errors.Ring, "ware choc cake 1")
        self.assertRefused(errors.TooMany, "ware tea " + " ".join(f"{name} 1" for name in "abcdefghijklm"))

    def test_too_deep(self):
        desk = Desk()
        for row in ("ware d e 1", "ware c d 1", "ware b c 1", "ware a b 1"):
            desk.say(row)
        before = state(desk)
        for row in ("ware z a 1", "ware e f 1"):
            with self.assertRaises(errors.NoDepth):
                desk.say(row)
        self.assertEqual(state(desk), before)

    def test_cook(self):
        self.assertRefused(errors.NoCooked, "cook cake 4")
        self.assertRefused(errors.NoCooked, "cook cake -1")
        self.assertRefused(errors.NoCooked, "cook choc 1")


class Desks(unittest.TestCase):
    def test_two_do_not_hang_on_one_another(self):
        one, other = bakery(), Desk()
        self.assertEqual(other.say("wares"), "")
        other.say("ware choc milk 1")
        self.assertEqual(one.say("label choc"), "sugar, cocoa; may hold nut")
        one.say("drop choc")
        self.assertEqual(other.say("wares"), "choc")

    def test_asking_changes_nothing(self):
        desk = bakery()
        before = state(desk)
        for row in ROWS[7:]:
            self.assertEqual(desk.say(row), desk.say(row))
        self.assertEqual(state(desk), before)


if __name__ == "__main__":
    unittest.main()
