"""Papers: for which prices they are, and what they show [16]."""

import unittest
from collections import defaultdict
from fractions import Fraction
from random import Random

from samples import LETTERS, as_tuple, drawn_label, drawn_recipe

from stufflists.errors import NoPaper, NoPrices, StuffError
from stufflists.listing import label_of, making_of
from stufflists.makings import cost
from stufflists.papers import shown
from stufflists.rowtexts import read_row

LABEL = read_row("flour 2/5 to 1/2, choc 1/5 to 1/3 (sugar, cocoa 1/10 to 1), water 1/4")
BARE = read_row("a, b, c")

NO_FRACTIONS = (None, 0, 1, True, "1/2", (1,), (2, 4), (1, 0), (1, -2), [1, 2], (True, 1), (0, 2), (1, 2, 3), {}, (),
                object())
NO_DICTS = (None, 0, 1, True, "", "salt", (), [], [((0,), (1, 1))], (((0,), (1, 1)),), {(0,)}, b"", object(), dict)
NO_PATHS = ((3,), (-1,), (0, 0), (1, 2), (2, 0), (1, 0, 0), "flour", "", 0, 1, None, ("0",), ((0,),), ((),), b"",
            frozenset(), object())


def fractions_of(**numbers):
    """A dict from paths to FRACTIONS: at_1_0 is (1, 0), at is ()."""
    return {tuple(int(number) for number in key.split("_")[1:]): as_tuple(Fraction(value))
            for key, value in numbers.items()}


class Papers(unittest.TestCase):
    def assertNoPaper(self, label, prices, paper):
        with self.subTest(prices=prices, paper=paper):
            with self.assertRaises(NoPaper) as caught:
                shown(label, prices, paper)
            self.assertIsInstance(caught.exception, StuffError)


class Shown(Papers):
    def test_nothing(self):
        self.assertEqual(shown(LABEL, {}, ({}, {}, {})), (0, 1))
        self.assertEqual(shown(LABEL, fractions_of(at_0=1), ({}, {}, {})), (0, 1))
        self.assertEqual(shown(paper=({}, {}, {}), prices={}, label=BARE), (0, 1))

    def test_lists_at_the_whole(self):
        self.assertEqual(shown(BARE, fractions_of(at_0=1, at_1=1, at_2=1), (fractions_of(at=1), {}, {})), (1, 1))
        self.assertEqual(shown(BARE, fractions_of(at_0=3), (fractions_of(at=1), {}, {})), (1, 1))
        self.assertEqual(shown(BARE, fractions_of(at_0=1), (fractions_of(at="1/3"), {}, {})), (1, 3))
        self.assertEqual(shown(BARE, fractions_of(at_0=-1), (fractions_of(at=-1), {}, {})), (-1, 1))
        self.assertEqual(shown(BARE, {}, (fractions_of(at="-5/2"), {}, {})), (-5, 2))

    def test_lists_at_places_that_hold_one(self):
        paper = (fractions_of(at=1, at_1=1), {}, {})
        prices = fractions_of(at_0=1, at_1_0=1, at_1_1=1, at_2=1)
        self.assertEqual(shown(LABEL, prices, paper), (1, 1))
        self.assertEqual(shown(LABEL, fractions_of(at_1=1), (fractions_of(at_1=-1), {}, {})), (0, 1))
        self.assertEqual(shown(LABEL, fractions_of(at_1_0=2), (fractions_of(at_1=1), {}, {})), (0, 1))

    def test_least_and_most(self):
        self.assertEqual(shown(LABEL, fractions_of(at_0=1), ({}, fractions_of(at_0=1), {})), (2, 5))
        self.assertEqual(shown(LABEL, fractions_of(at_0=-1), ({}, {}, fractions_of(at_0=1))), (-1, 2))
        self.assertEqual(shown(LABEL, fractions_of(at_0=3), ({}, fractions_of(at_0=3), {})), (6, 5))
        self.assertEqual(shown(LABEL, fractions_of(at_1_0=1, at_1_1=1), ({}, fractions_of(at_1_1=2), {})), (1, 5))
        self.assertEqual(shown(LABEL, {}, ({}, {}, fractions_of(at_1_1=2))), (-2, 1))

    def test_both_at_one_place(self):
        self.assertEqual(shown(LABEL, {}, ({}, fractions_of(at_0=2), fractions_of(at_0=2))), (-1, 5))
        self.assertEqual(shown(LABEL, {}, ({}, fractions_of(at_2=7), fractions_of(at_2=7))), (0, 1))

    def test_all_together(self):
        paper = (fractions_of(at="1/2", at_1="1/4"), fractions_of(at_0="1/2", at_1_1="3/4"), fractions_of(at_1="1/8", at_2=2))
        prices = fractions_of(at_0=1, at_1="1/8", at_1_0="1/4", at_1_1=1, at_2="-3/2")
        found = Fraction(1, 2) + Fraction(1, 2) * Fraction(2, 5) + Fraction(3, 4) * Fraction(1, 10)
        found -= Fraction(1, 8) * Fraction(1, 3) + 2 * Fraction(1, 4)
        self.assertEqual(shown(LABEL, prices, paper), as_tuple(found))

    def test_keys_that_lack_are_nought(self):
        noughts = {path: (0, 1) for path in LABEL.paths() if LABEL.told_at(path) is not None}
        paper = ({(): (0, 1), (1,): (0, 1)}, noughts, noughts)
        self.assertEqual(shown(LABEL, {}, paper), (0, 1))
        self.assertEqual(shown(LABEL, {path: (0, 1) for path in LABEL.paths()}, ({}, {}, {})), (0, 1))
        self.assertEqual(shown(LABEL, {}, ({}, noughts, {})), (0, 1))


class ForPrices(Papers):
    """The prices of each beginning of each LIST, less what its places are due, add up to 0 or more."""

    def test_at_the_first_beginning(self):
        self.assertEqual(shown(BARE, fractions_of(at_0=1), (fractions_of(at="1/3"), {}, {})), (1, 3))
        self.assertEqual(shown(BARE, fractions_of(at_0=1, at_1=5, at_2=5), (fractions_of(at=1), {}, {})), (1, 1))
        self.assertNoPaper(BARE, fractions_of(at_0="999/1000", at_1=5, at_2=5), (fractions_of(at=1), {}, {}))
        self.assertNoPaper(BARE, fractions_of(at_0=-1, at_1=5, at_2=5), ({}, {}, {}))
        self.assertEqual(shown(BARE, fractions_of(at_0="1001/1000", at_1=5, at_2=5), (fractions_of(at=1), {}, {})), (1, 1))

    def test_at_later_beginnings(self):
        whole = (fractions_of(at=1), {}, {})
        self.assertEqual(shown(BARE, fractions_of(at_0=2, at_2=1), whole), (1, 1))
        self.assertNoPaper(BARE, fractions_of(at_0="1999/1000", at_2=9), whole)
        self.assertEqual(shown(BARE, fractions_of(at_0=2, at_1=1), whole), (1, 1))
        self.assertNoPaper(BARE, fractions_of(at_0=2, at_1="999/1000"), whole)
        self.assertNoPaper(BARE, fractions_of(at_0=2, at_1=1, at_2="-1/1000"), whole)
        self.assertEqual(shown(BARE, fractions_of(at_0=4, at_1=1, at_2=-2), whole), (1, 1))

    def test_what_is_gained_first_counts_later(self):
        self.assertEqual(shown(BARE, fractions_of(at_0=2, at_1=-1, at_2=-1), ({}, {}, {})), (0, 1))
        self.assertNoPaper(BARE, fractions_of(at_0=2, at_1=-1, at_2="-1001/1000"), ({}, {}, {}))
        self.assertNoPaper(BARE, fractions_of(at_0=1, at_1=-2, at_2=9), ({}, {}, {}))
        self.assertNoPaper(BARE, fractions_of(at_0=-1, at_1=2), ({}, {}, {}))

    def test_in_inner_lists(self):
        paper = (fractions_of(at_1=1), {}, {})
        self.assertEqual(shown(LABEL, fractions_of(at_1_0=1, at_1_1=1), paper), (0, 1))
        self.assertNoPaper(LABEL, fractions_of(at_1_0=1, at_1_1="999/1000"), paper)
        self.assertNoPaper(LABEL, fractions_of(at_1_0="999/1000", at_1_1=2), paper)
        self.assertEqual(shown(LABEL, fractions_of(at_1_0=2), paper), (0, 1))
        self.assertNoPaper(LABEL, fractions_of(at_0=9, at_1_0="-1/1000", at_1_1=9), ({}, {}, {}))

    def test_what_holds_a_list_is_due_less(self):
        paper = (fractions_of(at_1=1), {}, {})
        inner = fractions_of(at_1_0=1, at_1_1=1)
        self.assertEqual(shown(LABEL, {**inner, **fractions_of(at_1=-1)}, paper), (0, 1))
        self.assertNoPaper(LABEL, {**inner, **fractions_of(at_1="-1001/1000")}, paper)
        self.assertNoPaper(LABEL, {}, (fractions_of(at_1=-1), {}, {}))
        self.assertEqual(shown(LABEL, fractions_of(at_1=1), (fractions_of(at_1=-1), {}, {})), (0, 1))

    def test_lists_four_deep(self):
        label = read_row("a (b (c (d, e)))")
        paper = (fractions_of(at=1, at_0=1, at_0_0=1, at_0_0_0=1), {}, {})
        self.assertEqual(shown(label, fractions_of(at_0_0_0_0=1, at_0_0_0_1=1), paper), (1, 1))
        self.assertNoPaper(label, fractions_of(at_0_0_0_0=1, at_0_0_0_1="9/10"), paper)
        self.assertNoPaper(label, fractions_of(at_0_0_0_0=1, at_0_0_0_1=1, at_0_0="-1/10"), paper)
        self.assertNoPaper(label, fractions_of(at_0_0_0=1), paper)

    def test_least_takes_and_most_gives(self):
        self.assertEqual(shown(LABEL, {}, ({}, {}, fractions_of(at_0=1))), (-1, 2))
        self.assertNoPaper(LABEL, {}, ({}, fractions_of(at_0="1/1000"), {}))
        self.assertNoPaper(LABEL, fractions_of(at_0="999/1000"), ({}, fractions_of(at_0=1), {}))
        self.assertNoPaper(LABEL, fractions_of(at_0="-1001/1000"), ({}, {}, fractions_of(at_0=1)))
        self.assertEqual(shown(LABEL, {}, (fractions_of(), fractions_of(at_2=1), fractions_of(at_0=1))), (-1, 4))
        self.assertNoPaper(LABEL, {}, ({}, fractions_of(at_0=1), fractions_of(at_2=1)))


class NoPapers(Papers):
    def test_no_tuple_of_three(self):
        for thing in (None, 0, True, "abc", b"abc", {}, (), ({},), ({}, {}), ({}, {}, {}, {}), [{}, {}, {}], object(),
                      {(): (1, 1)}, LABEL, {0: {}, 1: {}, 2: {}}):
            self.assertNoPaper(LABEL, {}, thing)

    def test_no_dicts(self):
        for thing in NO_DICTS:
            self.assertNoPaper(LABEL, {}, (thing, {}, {}))
            self.assertNoPaper(LABEL, {}, ({}, thing, {}))
            self.assertNoPaper(LABEL, {}, ({}, {}, thing))

    def test_keys_that_are_no_paths(self):
        for key in NO_PATHS:
            for at in range(3):
                paper = [{}, {}, {}]
                paper[at] = {key: (0, 1)}
                self.assertNoPaper(LABEL, {}, tuple(paper))

    def test_a_plain_place_in_lists(self):
        for path in ((0,), (1, 0), (1, 1), (2,)):
            self.assertNoPaper(LABEL, {}, ({path: (0, 1)}, {}, {}))
            self.assertNoPaper(LABEL, {}, ({(1,): (0, 1), path: (0, 1), (): (0, 1)}, {}, {}))

    def test_an_untold_place_in_least_or_most(self):
        self.assertNoPaper(LABEL, {}, ({}, {(1, 0): (0, 1)}, {}))
        self.assertNoPaper(LABEL, {}, ({}, {}, {(1, 0): (0, 1)}))
        for path in BARE.paths():
            self.assertNoPaper(BARE, {}, ({}, {path: (0, 1)}, {}))
            self.assertNoPaper(BARE, {}, ({}, {}, {path: (0, 1)}))

    def test_the_whole_in_least_or_most(self):
        self.assertNoPaper(LABEL, {}, ({}, {(): (0, 1)}, {}))
        self.assertNoPaper(LABEL, {}, ({}, {}, {(): (0, 1)}))

    def test_values_that_are_no_fractions(self):
        for value in NO_FRACTIONS:
            self.assertNoPaper(LABEL, {}, ({(): value}, {}, {}))
            self.assertNoPaper(LABEL, {}, ({(): (0, 1), (1,): value}, {}, {}))
            self.assertNoPaper(LABEL, {}, ({}, {(0,): value}, {}))
            self.assertNoPaper(LABEL, {}, ({}, {}, {(2,): value}))

    def test_least_or_most_below_nought(self):
        self.assertNoPaper(LABEL, {}, ({}, {(0,): (-1, 1000)}, {}))
        self.assertNoPaper(LABEL, fractions_of(at_0=9), ({}, {}, {(0,): (-1, 1000)}))
        self.assertNoPaper(LABEL, fractions_of(at_0=9), ({}, fractions_of(at_0=1, at_1=-1), {}))


class Prices(Papers):
    def assertNoPrices(self, prices, paper):
        with self.subTest(prices=prices):
            with self.assertRaises(NoPrices) as caught:
                shown(LABEL, prices, paper)
            self.assertIsInstance(caught.exception, StuffError)

    def test_no_prices(self):
        for thing in NO_DICTS:
            self.assertNoPrices(thing, ({}, {}, {}))
        for key in NO_PATHS + ((),):
            self.assertNoPrices({key: (1, 1)}, ({}, {}, {}))
            self.assertNoPrices({(0,): (1, 1), key: (0, 1)}, ({}, {}, {}))
        for price in NO_FRACTIONS:
            self.assertNoPrices({(0,): price}, ({}, {}, {}))
            self.assertNoPrices({(0,): (1, 1), (1, 0): price}, ({}, {}, {}))

    def test_ahead_of_no_paper(self):
        self.assertNoPrices(None, None)
        self.assertNoPrices({(): (1, 1)}, ({}, {}))
        self.assertNoPrices({(0,): 1}, ({(0,): (1, 1)}, {}, {}))
        self.assertNoPrices({(0,): (-1, 1), (1,): 0}, ({}, {}, {}))


class ByAnotherWay(Papers):
    """Papers that are drawn, judged and reckoned with Python's own fractions."""

    def drawn(self, rng, keys, least, part):
        return {key: as_tuple(Fraction(rng.randint(least, 3), rng.choice((1, 2, 3))))
                for key in keys if rng.random() < part}

    def drawn_paper(self, rng, label):
        told = [path for path in label.paths() if label.told_at(path) is not None]
        lists = [()] + [path for path in label.paths() if label.many_in(path) > 0]
        return (self.drawn(rng, lists, -3, 0.6), self.drawn(rng, told, 0, 0.3), self.drawn(rng, told, 0, 0.6))

    def by_sums(self, label, prices, paper):
        """What the paper shows, or None where it is none for the prices."""
        lists, least, most = [{path: Fraction(*number) for path, number in part.items()} for part in paper]
        for path in label.paths():
            above = Fraction(0)
            for at in range(path[-1] + 1):
                place = path[:-1] + (at,)
                above += Fraction(*prices.get(place, (0, 1))) - lists.get(path[:-1], 0) + most.get(place, 0)
                above += lists.get(place, 0) - least.get(place, 0)
            if above < 0:
                return None
        found = lists.get((), Fraction(0))
        found += sum(number * Fraction(*label.told_at(path)[0]) for path, number in least.items())
        found -= sum(number * Fraction(*label.told_at(path)[1]) for path, number in most.items())
        return as_tuple(found)

    def test_drawn_papers(self):
        judged = {True: 0, False: 0}
        for seed in range(3000):
            rng = Random(seed)
            label = drawn_label(seed, 0.5)
            prices, paper = self.drawn(rng, label.paths(), -2, 0.5), self.drawn_paper(rng, label)
            found = self.by_sums(label, prices, paper)
            judged[found is None] += 1
            if found is None:
                self.assertNoPaper(label, prices, paper)
            else:
                self.assertEqual(shown(label, prices, paper), found)
        self.assertGreater(min(judged.values()), 300)

    def test_no_making_costs_less(self):
        many = 0
        for seed in range(2000):
            rng = Random(seed)
            recipe = drawn_recipe(seed)
            label = label_of(recipe, list(LETTERS[:4]) + ["water"], rng.choice((0, 1, 3, 10)))
            prices, paper = self.drawn(rng, label.paths(), -2, 0.5), self.drawn_paper(rng, label)
            if self.by_sums(label, prices, paper) is not None:
                many += 1
                told, costs = shown(label, prices, paper), cost(label, prices, making_of(recipe))
                self.assertLessEqual(Fraction(*told), Fraction(*costs))
        self.assertGreater(many, 300)


class LaterChanges(unittest.TestCase):
    def test_what_is_handed_in_stays_as_it_was(self):
        prices = defaultdict(lambda: (-1, 1), fractions_of(at_0=1))
        paper = tuple(defaultdict(lambda: (9, 1), part) for part in ({}, fractions_of(at_0=1), {}))
        self.assertEqual(shown(LABEL, prices, paper), (2, 5))
        self.assertEqual(prices, fractions_of(at_0=1))
        self.assertEqual(paper, ({}, fractions_of(at_0=1), {}))
        with self.assertRaises(NoPaper):
            shown(LABEL, {}, paper)
        self.assertEqual(paper, ({}, fractions_of(at_0=1), {}))

    def test_the_same_is_told_alike(self):
        prices, paper = fractions_of(at_0=1), (fractions_of(at="1/3"), {}, {})
        self.assertEqual(shown(BARE, prices, paper), shown(BARE, dict(prices), paper))


if __name__ == "__main__":
    unittest.main()
