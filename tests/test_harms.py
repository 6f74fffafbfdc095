"""What harms somebody: kinds, and harm without and with a limit [21]."""

import unittest
from collections import defaultdict
from fractions import Fraction
from random import Random

from judging import NO_LISTS, NO_NAMES, Judging, counting, places_by_path, sharing, showing
from samples import LETTERS, as_tuple, drawn_label, shaken_label, told_label

from stufflists.errors import Never, NoKinds, NoLimit, NoName, StuffError
from stufflists.harms import harm, is_of
from stufflists.rowtexts import read_row
from stufflists.spreads import spread

KINDS = {"rye": ["corn", "gluten"], "corn": ["plant"], "plant": ["food"], "nut": ("shell", "plant"), "milk": []}
ROUND = {"a": ["b"], "b": ["c"], "c": ["a", "d"], "d": [], "e": ["e"], "f": ["a"]}

CAKE = read_row("flour 2/5 to 1/2, choc 1/5 to 1/3 (sugar, cocoa 1/10 to 1), water; may hold egg, nut")
CLASHING = read_row("flour 2/5, choc 1/5 to 1/4 (sugar, cocoa 1/10 to 1), water 1/5; may hold egg, nut")
BREAD = read_row("dough (rye, water), choc (milk), rye; may hold corn, nut, zinc")


def reached(kinds, one):
    """All to which one comes from a name, by steps of one more at a time."""
    found = set()
    while True:
        more = {name for start in found | {one} for name in kinds.get(start, ())}
        if more <= found:
            return found
        found |= more


def harming(names, kinds, every):
    return {name for name in every if name in names or reached(kinds, name) & set(names)}


class Kinds(unittest.TestCase):
    def assertOf(self, told, kinds, one, other):
        self.assertIs(is_of(kinds, one, other), told, (one, other))

    def test_in_one_step(self):
        self.assertOf(True, KINDS, "rye", "corn")
        self.assertOf(True, KINDS, "rye", "gluten")
        self.assertOf(True, KINDS, "nut", "shell")
        self.assertOf(False, KINDS, "corn", "rye")
        self.assertOf(False, KINDS, "corn", "gluten")

    def test_in_several(self):
        self.assertOf(True, KINDS, "rye", "plant")
        self.assertOf(True, KINDS, "rye", "food")
        self.assertOf(True, KINDS, "nut", "food")
        self.assertOf(False, KINDS, "nut", "corn")
        self.assertOf(False, KINDS, "food", "plant")

    def test_a_name_of_itself_only_where_one_comes_round(self):
        for name in ("rye", "corn", "plant", "food", "milk", "egg"):
            self.assertOf(False, KINDS, name, name)
        for name in ("a", "b", "c", "e"):
            self.assertOf(True, ROUND, name, name)
        for name in ("d", "f"):
            self.assertOf(False, ROUND, name, name)

    def test_round_and_round(self):
        for one in "abc":
            for other in "abcd":
                self.assertOf(True, ROUND, one, other)
            for other in "ef":
                self.assertOf(False, ROUND, one, other)
        self.assertOf(True, ROUND, "f", "d")
        self.assertOf(False, ROUND, "e", "a")

    def test_names_without_kinds(self):
        self.assertOf(False, {}, "rye", "corn")
        self.assertOf(False, {}, "rye", "rye")
        self.assertOf(False, KINDS, "milk", "food")
        self.assertOf(False, KINDS, "zinc", "food")

    def test_a_long_way(self):
        names = [first + second for first in LETTERS for second in LETTERS]
        kinds = {one: [two] for one, two in zip(names, names[1:])}
        self.assertOf(True, kinds, names[0], names[-1])
        self.assertOf(False, kinds, names[-1], names[0])
        self.assertOf(True, {**kinds, names[-1]: (names[0],)}, names[9], names[9])

    def test_drawn_kinds(self):
        for seed in range(200):
            rng = Random(seed)
            kinds = {name: rng.sample(LETTERS[:6], rng.randint(0, 2)) for name in LETTERS[:6] if rng.random() < 0.7}
            for one in LETTERS[:6]:
                for other in LETTERS[:6]:
                    self.assertOf(other in reached(kinds, one), kinds, one, other)

    def test_what_is_handed_in_stays_as_it_was(self):
        kinds = defaultdict(list, {"rye": ["corn"], "corn": ["plant"]})
        self.assertIs(is_of(one="rye", other="plant", kinds=kinds), True)
        self.assertEqual(kinds, {"rye": ["corn"], "corn": ["plant"]})


class WithoutALimit(unittest.TestCase):
    def assertHarm(self, told, label, *asked):
        self.assertEqual(harm(label, *asked), told)

    def test_the_first_path(self):
        self.assertHarm(("in", (0,)), CAKE, ["flour"])
        self.assertHarm(("in", (1, 1)), CAKE, ["cocoa"])
        self.assertHarm(("in", (1, 0)), CAKE, ["water", "cocoa", "sugar"])
        self.assertHarm(("in", (0, 0)), BREAD, ["rye"])

    def test_a_place_that_holds_a_list(self):
        self.assertHarm(("in", (1,)), CAKE, ["choc"])
        self.assertHarm(("in", (1,)), CAKE, ["cocoa", "choc"])
        self.assertHarm(("in", (0,)), BREAD, ["rye", "dough"])

    def test_ahead_of_words(self):
        self.assertHarm(("in", (2,)), CAKE, ["egg", "water"])
        self.assertHarm(("in", (1, 0)), BREAD, ["corn", "milk"])

    def test_the_first_word(self):
        self.assertHarm(("may", "nut"), CAKE, ["nut"])
        self.assertHarm(("may", "egg"), CAKE, ["nut", "egg"])
        self.assertHarm(("may", "corn"), BREAD, ["zinc", "nut", "corn"])

    def test_not(self):
        self.assertHarm(("not", None), CAKE, ["fish"])
        self.assertHarm(("not", None), CAKE, [])
        self.assertHarm(("not", None), CAKE, ())
        self.assertHarm(("not", None), read_row("salt"), ["egg", "nut"])

    def test_by_kinds(self):
        self.assertHarm(("in", (0, 0)), BREAD, ["gluten"], KINDS)
        self.assertHarm(("in", (0, 0)), BREAD, ["food"], KINDS)
        self.assertHarm(("may", "nut"), BREAD, ["shell"], KINDS)
        self.assertHarm(("not", None), BREAD, ["gluten"])
        self.assertHarm(("not", None), BREAD, ["gluten"], {})
        self.assertHarm(("not", None), BREAD, ["gluten"], None)
        self.assertHarm(("may", "corn"), read_row("milk; may hold corn, nut, zinc"), ["plant"], KINDS)

    def test_kinds_go_one_way(self):
        self.assertHarm(("not", None), read_row("food, gluten; may hold plant"), ["rye"], KINDS)

    def test_kinds_that_come_round(self):
        label = read_row("f, x; may hold b")
        self.assertHarm(("in", (0,)), label, ["b"], ROUND)
        self.assertHarm(("in", (0,)), label, ["c"], ROUND)
        self.assertHarm(("not", None), label, ["e"], ROUND)
        self.assertHarm(("in", (1,)), read_row("x, b"), ["a"], ROUND)

    def test_names_and_kinds_as_tuples(self):
        self.assertHarm(("in", (0, 0)), BREAD, ("shell", "corn"), {"rye": ("corn",)})
        self.assertHarm(("may", "nut"), BREAD, ("shell",), {"nut": ("shell", "plant")})

    def test_a_label_without_makings(self):
        self.assertHarm(("in", (0,)), CLASHING, ["flour"])
        self.assertHarm(("may", "egg"), CLASHING, ["egg"])
        self.assertHarm(("not", None), CLASHING, ["fish"])
        self.assertHarm(("in", (0,)), CLASHING, ["flour"], None, None)

    def test_arguments_by_their_names(self):
        self.assertEqual(harm(limit=None, kinds=KINDS, names=["gluten"], label=BREAD), ("in", (0, 0)))

    def test_drawn_labels(self):
        words = []
        for seed in range(200):
            rng = Random(seed)
            label = drawn_label(seed)
            kinds = {name: rng.sample(LETTERS, rng.randint(0, 2)) for name in LETTERS if rng.random() < 0.4}
            names = rng.sample(LETTERS, rng.choice((0, 1, 2)))
            places = places_by_path(label)
            harmful = harming(names, kinds, [place[0] for place in places.values()] + label.may())
            told = harm(label, names, kinds)
            words.append(told[0])
            paths = [path for path in sorted(places) if places[path][0] in harmful]
            held = [word for word in label.may() if word in harmful]
            self.assertEqual(told, ("in", paths[0]) if paths else ("may", held[0]) if held else ("not", None))
        self.assertGreater(min(words.count("in"), words.count("may"), words.count("not")), 5)


class ByALimit(Judging):
    def assertHarm(self, word, label, names, kinds, limit):
        """The answer has this word, and shows it."""
        told = harm(label, names, kinds, limit)
        self.assertEqual((told[0], len(told)), (word, 2), (label, names, limit))
        every = [place[0] for place in places_by_path(label).values()] + label.may()
        harmful = harming(names, {} if kinds is None else kinds, every)
        bound = Fraction(*limit)
        if word == "in":
            found = showing(label, {path: (1, 1) for path in counting(label, harmful)}, told[1])
            self.assertGreater(found, bound)
        elif word == "not":
            found = showing(label, {path: (-1, 1) for path in counting(label, harmful)}, told[1])
            self.assertGreaterEqual(found, -bound)
            self.assertEqual(harmful & set(label.may()), set())
        elif isinstance(told[1], dict):
            self.assertMaking(label, told[1])
            self.assertGreater(sharing(label, harmful, told[1]), bound)
            self.assertLessEqual(Fraction(*spread(label, sorted(harmful))[0]), bound)
        else:
            self.assertEqual(told[1], [name for name in label.may() if name in harmful][0])
            self.assertLessEqual(Fraction(*spread(label, sorted(harmful))[1]), bound)
        return told[1]

    def assertMayByWord(self, name, label, names, kinds, limit):
        self.assertEqual(self.assertHarm("may", label, names, kinds, limit), name)

    def assertMayByMaking(self, label, names, kinds, limit):
        self.assertIsInstance(self.assertHarm("may", label, names, kinds, limit), dict)

    def test_in(self):
        self.assertHarm("in", CAKE, ["flour"], None, (0, 1))
        self.assertHarm("in", CAKE, ["flour"], None, (399, 1000))
        self.assertHarm("in", CAKE, ["flour", "egg"], None, (1, 3))
        self.assertHarm("in", CAKE, ["choc", "cocoa"], None, (6, 25))
        self.assertHarm("in", CAKE, ["flour", "choc", "water"], None, (99, 100))

    def test_may_by_a_making(self):
        self.assertMayByMaking(CAKE, ["flour"], None, (2, 5))
        self.assertMayByMaking(CAKE, ["flour"], None, (499, 1000))
        self.assertMayByMaking(CAKE, ["flour", "egg"], None, (401, 1000))
        self.assertMayByMaking(read_row("a, b"), ["b"], None, (0, 1))

    def test_may_by_a_word(self):
        self.assertMayByWord("egg", CAKE, ["flour", "nut", "egg"], None, (1, 2))
        self.assertMayByWord("nut", CAKE, ["flour", "nut"], None, (501, 1000))
        self.assertMayByWord("nut", CAKE, ["nut"], None, (0, 1))
        self.assertMayByWord("egg", CAKE, ["egg", "flour"], None, (1, 1))

    def test_not(self):
        self.assertHarm("not", CAKE, ["flour"], None, (1, 2))
        self.assertHarm("not", CAKE, ["flour"], None, (501, 1000))
        self.assertHarm("not", CAKE, ["flour"], None, (1, 1))
        self.assertHarm("not", CAKE, ["fish"], None, (0, 1))
        self.assertHarm("not", CAKE, [], None, (0, 1))
        self.assertHarm("not", read_row("salt"), ["salt"], None, (1, 1))

    def test_just_the_share_a_little_less_and_a_little_more(self):
        label = read_row("a 3/5, b (c 3/10, d)")
        tiny = Fraction(1, 10 ** 15)
        for names, share in ((["a"], "3/5"), (["c"], "3/10"), (["d"], "1/10"), (["b", "c"], "2/5"), (["a", "d"], "7/10")):
            share = Fraction(share)
            self.assertHarm("in", label, names, None, as_tuple(share - tiny))
            self.assertHarm("not", label, names, None, as_tuple(share))
            self.assertHarm("not", label, names, None, as_tuple(share + tiny))

    def test_a_share_of_one_or_nought(self):
        self.assertHarm("in", read_row("salt"), ["salt"], None, (0, 1))
        self.assertHarm("in", read_row("salt"), ["salt"], None, (10 ** 19 - 1, 10 ** 19))
        self.assertHarm("not", read_row("salt, egg 0"), ["egg"], None, (0, 1))
        self.assertHarm("in", read_row("salt, egg 1/1000 to 1/100"), ["egg"], None, (0, 1))

    def test_all_harmful_names_together_by_kinds(self):
        kinds = {"rye": ["gluten"], "wheat": ["gluten"], "dough": ["gluten"]}
        label = read_row("dough 2/5 (rye, salt), wheat 3/10, water")
        self.assertHarm("in", label, ["gluten"], kinds, (69, 100))
        self.assertHarm("not", label, ["gluten"], kinds, (7, 10))
        del kinds["dough"]
        self.assertHarm("in", label, ["gluten"], kinds, (49, 100))
        self.assertMayByMaking(label, ["gluten"], kinds, (1, 2))
        self.assertHarm("not", label, ["gluten"], kinds, (7, 10))
        self.assertHarm("not", label, ["gluten"], None, (0, 1))

    def test_words_by_kinds(self):
        self.assertMayByWord("nut", BREAD, ["shell"], KINDS, (0, 1))
        self.assertMayByWord("corn", BREAD, ["plant", "zinc"], KINDS, (1, 1))

    def test_drawn_labels(self):
        words = []
        for seed in range(250):
            rng = Random(seed)
            label, making = told_label(rng, rng.choice((0.3, 0.8)))
            kinds = {name: rng.sample(LETTERS[:9], rng.randint(0, 2)) for name in LETTERS[:9] if rng.random() < 0.3}
            names = rng.sample(LETTERS[:9], rng.choice((0, 1, 2)))
            harmful = harming(names, kinds, LETTERS)
            low, high = spread(label, sorted(harmful))[:2]
            own = as_tuple(sharing(label, harmful, making))
            for limit in ((0, 1), (1, 1), low, high, own, as_tuple((Fraction(*low) + Fraction(*high)) / 2)):
                held = harmful & set(label.may())
                word = "in" if Fraction(*low) > Fraction(*limit) else "may" if Fraction(*high) > Fraction(*limit) or held \
                    else "not"
                self.assertHarm(word, label, names, kinds, limit)
                words.append(word)
        self.assertGreater(min(words.count("in"), words.count("may"), words.count("not")), 50)


class Refusals(Judging):
    NO_KINDS = (0, 1, True, False, "", "rye", [], ["rye"], (), (("rye", ["corn"]),), {"rye"}, b"", object(),
                {"rye": None}, {"rye": "corn"}, {"rye": {"corn"}}, {"rye": {"corn": 1}}, {"rye": ["corn", ""]},
                {"rye": [1]}, {"rye": [["corn"]]}, {"Rye": ["corn"]}, {"": []}, {None: []}, {1: []}, {("rye",): []},
                {"rye": ["corn"], "abcdefghi": []}, {"corn": [], "rye": ["CORN"]}, {"rye": 0}, {b"rye": []})
    NO_LIMITS = (0, 1, True, False, "", "1/2", (), (1,), (2, 4), (1, 0), (-1, 2), (3, 2), (2, 1), [1, 2], (1, 2, 3),
                 (True, 1), (0, 2), {}, object(), (10 ** 19 + 1, 10 ** 19), (1, -2))

    def assertNoName(self, number, *asked):
        for label in (CAKE, CLASHING):
            with self.assertRaises(NoName) as caught:
                harm(label, *asked)
            self.assertEqual(caught.exception.number, number)
            self.assertIsInstance(caught.exception, StuffError)

    def assertRefused(self, error, *asked):
        for label in (CAKE, CLASHING):
            with self.subTest(label=label, asked=asked):
                with self.assertRaises(error) as caught:
                    harm(label, *asked)
                self.assertIsInstance(caught.exception, StuffError)

    def test_no_names(self):
        for thing in NO_LISTS:
            self.assertNoName(-1, thing)
        for thing in NO_NAMES:
            self.assertNoName(0, [thing])
            self.assertNoName(2, ("flour", "egg", thing, thing))

    def test_no_kinds(self):
        for thing in self.NO_KINDS:
            self.assertRefused(NoKinds, ["flour"], thing)
            self.assertRefused(NoKinds, [], thing, (1, 2))

    def test_no_limit(self):
        for thing in self.NO_LIMITS:
            self.assertRefused(NoLimit, ["flour"], None, thing)
            self.assertRefused(NoLimit, [], KINDS, thing)

    def test_never_only_with_a_limit(self):
        for names in ([], ["flour"], ["fish"], ["egg"]):
            for limit in ((0, 1), (1, 2), (1, 1)):
                with self.assertRaises(Never) as caught:
                    harm(CLASHING, names, None, limit)
                self.assertShowsNever(CLASHING, caught.exception.paper)
                with self.assertRaises(Never):
                    harm(CLASHING, names, KINDS, limit)
            self.assertIn(harm(CLASHING, names)[0], ("in", "may", "not"))

    def test_drawn_labels_without_makings(self):
        many = 0
        for seed in range(60):
            label = shaken_label(Random(seed))
            try:
                spread(label, [])
            except Never:
                many += 1
                with self.assertRaises(Never) as caught:
                    harm(label, ["a"], None, (1, 2))
                self.assertShowsNever(label, caught.exception.paper)
        self.assertGreater(many, 10)

    def test_more_than_one_due_at_once(self):
        self.assertNoName(-1, None, 7, 7)
        self.assertNoName(1, ["flour", ""], {"": 1}, (3, 2))
        self.assertNoName(0, [0], None, 7)
        self.assertRefused(NoKinds, ["flour"], 7, 7)
        self.assertRefused(NoKinds, ["flour"], {"rye": "corn"}, (-1, 2))
        self.assertRefused(NoLimit, ["flour"], {}, (3, 2))


class LaterChanges(Judging):
    def test_what_is_handed_in_stays_as_it_was(self):
        names, kinds = ["plant", "egg"], defaultdict(list, {"cocoa": ["nut"], "nut": ["plant"]})
        for limit in (None, (0, 1), (1, 1)):
            harm(CAKE, names, kinds, limit)
        self.assertEqual(names, ["plant", "egg"])
        self.assertEqual(kinds, {"cocoa": ["nut"], "nut": ["plant"]})

    def test_kinds_changed_between_two_calls(self):
        kinds = {"cocoa": ["nut"]}
        self.assertEqual(harm(CAKE, ["plant"], kinds), ("not", None))
        kinds["nut"] = ["plant"]
        self.assertEqual(harm(CAKE, ["plant"], kinds), ("in", (1, 1)))
        kinds["cocoa"].clear()
        self.assertEqual(harm(CAKE, ["plant"], kinds), ("may", "nut"))

    def test_answers_are_the_askers_own(self):
        for limit in ((0, 1), (2, 5), (1, 2)):
            self.assertOwn(lambda: harm(CAKE, ["flour"], None, limit))

        def ask():
            with self.assertRaises(Never) as caught:
                harm(CLASHING, [], None, (0, 1))
            return caught.exception.paper

        self.assertOwn(ask)


if __name__ == "__main__":
    unittest.main()
