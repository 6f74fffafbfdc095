"""The share of some names in a making, and their spread in a label [18]."""

import unittest
from collections import defaultdict
from fractions import Fraction
from random import Random

from judging import NO_DICTS, NO_LISTS, NO_NAMES, Judging, counting, sharing, showing
from samples import LETTERS, as_tuple, drawn_label, drawn_recipe, shaken_label, told_label

from stufflists.errors import Never, NoMaking, NoName, StuffError
from stufflists.listing import label_of, making_of
from stufflists.papers import shown
from stufflists.rowtexts import read_row
from stufflists.spreads import share_of, spread

CAKE = read_row("flour 2/5 to 1/2, choc 1/5 to 1/3 (sugar, cocoa 1/10 to 1), water")
MAKING = {(0,): (9, 20), (1,): (3, 10), (1, 0): (1, 5), (1, 1): (1, 10), (2,): (1, 4)}
CLASHING = read_row("flour 2/5, choc 1/5 to 1/4 (sugar, cocoa 1/10 to 1), water 1/5")

# Names at several places, and within one another.
NESTED = read_row("mix (oil, dough (oil, rye (salt, oil))), oil, dough (mix (oil), salt)")
NESTED_MAKING = {(0,): (1, 2), (0, 0): (1, 4), (0, 1): (1, 4), (0, 1, 0): (1, 8), (0, 1, 1): (1, 8),
                 (0, 1, 1, 0): (1, 12), (0, 1, 1, 1): (1, 24), (1,): (3, 10), (2,): (1, 5), (2, 0): (1, 8),
                 (2, 0, 0): (1, 8), (2, 1): (3, 40)}


class Shares(Judging):
    def test_none_one_and_several_names(self):
        for names, share in (([], "0"), (["flour"], "9/20"), (["cocoa"], "1/10"), (["flour", "water"], "7/10"),
                             (["water", "sugar", "cocoa"], "11/20"), (["nut"], "0"), (["nut", "flour"], "9/20")):
            self.assertEqual(share_of(CAKE, names, MAKING), as_tuple(Fraction(share)))
            self.assertEqual(share_of(CAKE, tuple(names), MAKING), as_tuple(Fraction(share)))
            self.assertEqual(share_of(CAKE, names + names, MAKING), as_tuple(Fraction(share)))

    def test_a_place_and_one_within_it_count_once(self):
        self.assertEqual(share_of(CAKE, ["choc", "sugar"], MAKING), (3, 10))
        self.assertEqual(share_of(CAKE, ["choc", "sugar", "cocoa", "flour"], MAKING), (3, 4))
        self.assertEqual(share_of(CAKE, ["flour", "choc", "water", "sugar"], MAKING), (1, 1))

    def test_names_at_several_places_and_within_one_another(self):
        self.assertMaking(NESTED, NESTED_MAKING)
        for names, share in ((["oil"], "101/120"), (["salt"], "19/120"), (["mix"], "5/8"),
                             (["dough"], "9/20"), (["rye"], "1/8"), (["mix", "dough"], "7/10"),
                             (["rye", "salt"], "1/5"), (["dough", "oil"], "1"), (["rye", "oil"], "37/40"),
                             (["mix", "dough", "oil", "salt", "rye"], "1")):
            self.assertEqual(share_of(NESTED, names, NESTED_MAKING), as_tuple(Fraction(share)), names)

    def test_far_within(self):
        label = read_row("a (b (c (d, e))), e")
        making = {(0,): (3, 4), (0, 0): (3, 4), (0, 0, 0): (3, 4), (0, 0, 0, 0): (1, 2), (0, 0, 0, 1): (1, 4), (1,): (1, 4)}
        for names, share in ((["a", "d"], "3/4"), (["b", "e"], "1"), (["c", "d", "e"], "1"), (["d"], "1/2"),
                             (["e"], "1/2"), (["a", "b", "c", "d"], "3/4")):
            self.assertEqual(share_of(label, names, making), as_tuple(Fraction(share)), names)

    def test_words_do_not_count(self):
        label = read_row("salt; may hold nut")
        self.assertEqual(share_of(label, ["nut"], {(0,): (1, 1)}), (0, 1))

    def test_drawn_makings(self):
        for seed in range(200):
            rng = Random(seed)
            label, making = told_label(rng, 0.4)
            names = rng.sample(LETTERS[:9], rng.randint(0, 5))
            self.assertEqual(share_of(label, names, making), as_tuple(sharing(label, names, making)))

    def test_arguments_by_their_names(self):
        self.assertEqual(share_of(making=MAKING, names=["flour"], label=CAKE), (9, 20))


class ShareRefusals(Judging):
    def assertNoName(self, number, names, making=MAKING):
        with self.assertRaises(NoName) as caught:
            share_of(CAKE, names, making)
        self.assertEqual(caught.exception.number, number)
        self.assertIsInstance(caught.exception, StuffError)

    def test_no_names(self):
        for thing in NO_LISTS:
            self.assertNoName(-1, thing)
        for thing in NO_NAMES:
            self.assertNoName(0, [thing])
            self.assertNoName(2, ["flour", "egg", thing, thing])
            self.assertNoName(1, ("flour", thing))

    def test_no_making(self):
        wrong = list(NO_DICTS) + [{}, {**MAKING, (0,): (1, 2)}, {**MAKING, (3,): (0, 1)}, {**MAKING, (2,): 0},
                                  {path: MAKING[path] for path in list(MAKING)[1:]},
                                  {**MAKING, (0,): (7, 20), (2,): (7, 20)}]
        for thing in wrong:
            for names in ([], ["flour"], ["nut"]):
                with self.assertRaises(NoMaking) as caught:
                    share_of(CAKE, names, thing)
                self.assertIsInstance(caught.exception, StuffError)

    def test_no_name_ahead_of_no_making(self):
        self.assertNoName(-1, None, None)
        self.assertNoName(1, ["flour", ""], {})
        self.assertNoName(0, [1], {**MAKING, (0,): (1, 2)})


class Spreads(Judging):
    def assertSpread(self, label, names):
        """At both ends there is a making, and a paper shows that none goes beyond."""
        told = spread(label, names)
        low, high, makings, papers = told
        self.assertEqual([type(part) for part in told], [tuple] * 4)
        self.assertEqual([len(makings), len(papers)], [2, 2])
        for making, end in zip(makings, (low, high)):
            self.assertMaking(label, making)
            self.assertEqual(sharing(label, names, making), Fraction(*end))
            self.assertEqual(share_of(label, names, making), end)
        for sign, paper, end in zip((1, -1), papers, (low, high)):
            prices = {path: (sign, 1) for path in counting(label, names)}
            self.assertEqual(showing(label, prices, paper), sign * Fraction(*end))
            self.assertEqual(Fraction(*shown(label, prices, paper)), sign * Fraction(*end))
        return Fraction(*low), Fraction(*high)

    def assertNever(self, label, names):
        with self.assertRaises(Never) as caught:
            spread(label, names)
        self.assertIsInstance(caught.exception, StuffError)
        self.assertShowsNever(label, caught.exception.paper)

    def assertEnds(self, label, names, low, high):
        self.assertEqual(self.assertSpread(label, names), (Fraction(low), Fraction(high)), names)


class Written(Spreads):
    def test_the_cake(self):
        self.assertEnds(CAKE, ["flour"], "2/5", "1/2")
        self.assertEnds(CAKE, ["choc"], "1/4", "1/3")
        self.assertEnds(CAKE, ["sugar"], "1/8", "7/30")
        self.assertEnds(CAKE, ["cocoa"], "1/10", "1/6")
        self.assertEnds(CAKE, ("water",), "1/6", "3/10")

    def test_no_names(self):
        self.assertEnds(CAKE, [], 0, 0)
        self.assertEnds(CAKE, (), 0, 0)

    def test_names_that_no_place_has(self):
        self.assertEnds(CAKE, ["nut"], 0, 0)
        self.assertEnds(CAKE, ["nut", "water", "egg"], "1/6", "3/10")

    def test_several_names(self):
        self.assertEnds(CAKE, ["flour", "choc", "water"], 1, 1)
        self.assertEnds(CAKE, ["flour", "sugar", "cocoa", "water"], 1, 1)
        self.assertEnds(CAKE, ["flour", "water"], "2/3", "3/4")
        self.assertEnds(CAKE, ["choc", "cocoa"], "1/4", "1/3")
        self.assertEnds(CAKE, ["sugar", "cocoa"], "1/4", "1/3")

    def test_names_at_several_places_and_within_one_another(self):
        self.assertEnds(NESTED, ["mix", "dough", "oil"], 1, 1)
        self.assertEnds(NESTED, ["oil"], "3/4", 1)
        self.assertEnds(NESTED, ["salt"], 0, "1/4")
        self.assertEnds(NESTED, ["mix"], "1/2", 1)
        self.assertEnds(NESTED, ["dough"], 0, "1/2")

    def test_a_told_share_and_a_whole_list(self):
        self.assertEnds(read_row("a 3/5, b"), ["b"], "2/5", "2/5")
        self.assertEnds(read_row("a"), ["a"], 1, 1)
        self.assertEnds(read_row("a (b)"), ["b", "a"], 1, 1)

    def test_arguments_by_their_names(self):
        self.assertEqual(spread(names=["flour"], label=CAKE), spread(CAKE, ["flour"]))


class Drawn(Spreads):
    def test_told_around_a_making(self):
        for seed in range(200):
            rng = Random(seed)
            label, making = told_label(rng, rng.choice((0, 0.4, 0.8)))
            names = rng.sample(LETTERS[:9], rng.choice((0, 1, 1, 2, 3, 6)))
            low, high = self.assertSpread(label, names)
            self.assertTrue(low <= sharing(label, names, making) <= high)

    def test_labels_without_makings(self):
        many = 0
        for seed in range(150):
            rng = Random(seed)
            label = drawn_label(seed) if seed % 2 else shaken_label(rng)
            names = rng.sample(LETTERS[:9], rng.choice((0, 1, 2)))
            try:
                spread(label, names)
            except Never:
                many += 1
                self.assertNever(label, names)
            else:
                self.assertSpread(label, names)
        self.assertTrue(30 < many < 120)

    def test_labels_told_of_recipes(self):
        for seed in range(150):
            rng = Random(seed)
            recipe = drawn_recipe(seed)
            tell = rng.sample(list(LETTERS[:6]) + ["water"], rng.randint(0, 5))
            label, own = label_of(recipe, tell, rng.choice((0, 1, 3, 10, 100))), making_of(recipe)
            for names in (["water"], rng.sample(LETTERS[:6], 2), tell):
                low, high = self.assertSpread(label, names)
                self.assertTrue(low <= sharing(label, names, own) <= high)

    def test_told_just_it_has_no_width(self):
        for seed in range(40):
            recipe = drawn_recipe(seed)
            label, own = label_of(recipe, list(LETTERS[:6]) + ["water"]), making_of(recipe)
            for path in label.paths():
                name = label.name_at(path)
                low, high = self.assertSpread(label, [name])
                self.assertEqual((low, high), (sharing(label, [name], own),) * 2)


class SpreadRefusals(Spreads):
    def assertNoName(self, number, names):
        for label in (CAKE, CLASHING):
            with self.assertRaises(NoName) as caught:
                spread(label, names)
            self.assertEqual(caught.exception.number, number)

    def test_no_names_also_where_there_is_no_making(self):
        for thing in NO_LISTS:
            self.assertNoName(-1, thing)
        for thing in NO_NAMES:
            self.assertNoName(0, [thing])
            self.assertNoName(2, ["flour", "egg", thing, thing])
            self.assertNoName(1, ("flour", thing))

    def test_never(self):
        for names in ([], ["flour"], ("nut",), ["flour", "choc"]):
            self.assertNever(CLASHING, names)
            self.assertNever(read_row("salt 1/2"), names)


class LaterChanges(Judging):
    def test_what_is_handed_in_stays_as_it_was(self):
        names, making = ["flour", "sugar"], defaultdict(lambda: (0, 1), MAKING)
        share_of(CAKE, names, making)
        spread(CAKE, names)
        self.assertEqual(names, ["flour", "sugar"])
        self.assertEqual(making, MAKING)

    def test_names_changed_between_two_calls(self):
        names = ["flour"]
        first = spread(CAKE, names)
        names[0] = "water"
        self.assertEqual(first[:2], ((2, 5), (1, 2)))
        self.assertEqual(spread(CAKE, names)[:2], ((1, 6), (3, 10)))

    def test_answers_are_the_askers_own(self):
        for row in ("a", "a 3/5, b", "a 1/2, b 1/2 (c 1/3, d 1/6)", str(CAKE)):
            for names in ([], ["a"], ["b", "flour"]):
                self.assertOwn(lambda: spread(read_row(row), names))

    def test_the_papers_of_refusals_are_the_askers_own(self):
        def ask():
            with self.assertRaises(Never) as caught:
                spread(CLASHING, ["flour"])
            return caught.exception.paper

        self.assertOwn(ask)


if __name__ == "__main__":
    unittest.main()
