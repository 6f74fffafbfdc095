"""The least cost of a label's makings, or a paper that shows that there are none [17]."""

import unittest
from collections import defaultdict
from fractions import Fraction
from random import Random

from judging import NO_DICTS, NO_FRACTIONS, Judging, costing, showing
from samples import LETTERS, as_tuple, bare_label, drawn_label, drawn_making, drawn_prices, shaken_label, told_label

from stufflists.errors import NoPrices, StuffError
from stufflists.labels import Label, retold
from stufflists.leasts import least
from stufflists.makings import cost, is_making
from stufflists.papers import shown
from stufflists.rowtexts import read_row

CAKE = read_row("flour 2/5 to 1/2, choc 1/5 to 1/3 (sugar, cocoa 1/10 to 1), water")
CLASHING = read_row("flour 2/5, choc 1/5 to 1/4 (sugar, cocoa 1/10 to 1), water 1/5")


class Leasts(Judging):
    def assertLeast(self, label, prices):
        """The making costs the least that is told, and the paper shows just that; both by the tests' own sums, too."""
        word, told, making, paper = least(label, prices)
        self.assertEqual(word, "least")
        self.assertMaking(label, making)
        self.assertEqual(Fraction(*told), costing(prices, making))
        self.assertEqual(showing(label, prices, paper), Fraction(*told))
        self.assertEqual(told, as_tuple(Fraction(*told)))
        self.assertIs(is_making(label, making), True)
        self.assertEqual(cost(label, prices, making), told)
        self.assertEqual(shown(label, prices, paper), told)
        return Fraction(*told)

    def assertNever(self, label, prices):
        word, paper = least(label, prices)
        self.assertEqual(word, "never")
        self.assertShowsNever(label, paper)
        self.assertGreater(Fraction(*shown(label, {}, paper)), 0)

    def assertEither(self, label, prices):
        word = least(label, prices)[0]
        if word == "never":
            self.assertNever(label, prices)
        else:
            self.assertLeast(label, prices)
        return word


class Written(Leasts):
    def test_one_place(self):
        label = read_row("salt")
        for price in ((0, 1), (3, 7), (-2, 1)):
            self.assertEqual(least(label, {(0,): price})[:3], ("least", price, {(0,): (1, 1)}))
            self.assertLeast(label, {(0,): price})

    def test_two_places(self):
        label = read_row("a, b")
        self.assertEqual(self.assertLeast(label, {(0,): (1, 1)}), Fraction(1, 2))
        self.assertEqual(self.assertLeast(label, {(1,): (1, 1)}), 0)
        self.assertEqual(self.assertLeast(label, {(0,): (-1, 1)}), -1)
        self.assertEqual(self.assertLeast(label, {(1,): (-1, 1)}), Fraction(-1, 2))
        self.assertEqual(self.assertLeast(label, {(0,): (3, 1), (1,): (-5, 1)}), -1)
        self.assertEqual(self.assertLeast(label, {(0,): (3, 1), (1,): (3, 1)}), 3)

    def test_the_cake(self):
        for path, low, high in (((0,), "2/5", "1/2"), ((1,), "1/4", "1/3"), ((1, 0), "1/8", "7/30"),
                                ((1, 1), "1/10", "1/6"), ((2,), "1/6", "3/10")):
            self.assertEqual(self.assertLeast(CAKE, {path: (1, 1)}), Fraction(low), path)
            self.assertEqual(self.assertLeast(CAKE, {path: (-1, 1)}), -Fraction(high), path)

    def test_no_prices_at_all(self):
        self.assertEqual(self.assertLeast(CAKE, {}), 0)
        self.assertEqual(self.assertLeast(CAKE, {path: (0, 1) for path in CAKE.paths()}), 0)
        self.assertNever(CLASHING, {})

    def test_the_same_price_for_a_list(self):
        self.assertEqual(self.assertLeast(CAKE, {(0,): (7, 3), (1,): (7, 3), (2,): (7, 3)}), Fraction(7, 3))
        self.assertEqual(self.assertLeast(CAKE, {(1,): (1, 1), (1, 0): (-1, 1), (1, 1): (-1, 1)}), 0)

    def test_never(self):
        for row in ("salt 0", "salt 9/10", "salt 0 to 9/10", "a, b 51/100", "a 1/3, b, c 1/3 to 1/2 (d 1/3, e 1/100)",
                    "a 1/3, b 1/4", "a 1/5, b, c", "a (b 1/4, c 1/4), d 3/10", "a 0", "a, b (c (d (e 3/5)))",
                    "a 0 to 2/5, b, c 0 to 1/10", "a 1/2, b 1/2 (c 1/10, d)", "a 1/3 (b, c), d"):
            self.assertNever(read_row(row), {})
            self.assertNever(read_row(row), {(0,): (5, 2)})

    def test_just_not_never(self):
        for row in ("salt 1", "salt 0 to 1", "a, b 1/2", "a 1/3, b, c 1/3 (d 1/3, e 0)", "a 2/3, b 1/3", "a 1/3, b, c",
                    "a (b 1/4, c 1/4), d 1/2", "a, b (c (d (e 1/2)))", "a 0 to 9/20, b, c 0 to 1/10"):
            self.assertLeast(read_row(row), {})
            self.assertLeast(read_row(row), {(0,): (5, 2)})

    def test_arguments_by_their_names(self):
        self.assertEqual(least(prices={(2,): (1, 1)}, label=CAKE), least(CAKE, {(2,): (1, 1)}))


class NothingTold(Leasts):
    """The most share of a place and its least, by its number in its LIST and those of the places around it."""

    def ends(self, label, path):
        low = high = Fraction(1)
        for deep in range(1, len(path) + 1):
            low = low * Fraction(1, label.many_in(path[:deep - 1])) if path[deep - 1] == 0 else Fraction(0)
            high *= Fraction(1, path[deep - 1] + 1)
        return low, high

    def test_drawn_labels(self):
        for seed in range(60):
            label = bare_label(Random(seed))
            for path in label.paths():
                low, high = self.ends(label, path)
                self.assertEqual(self.assertLeast(label, {path: (1, 1)}), low)
                self.assertEqual(self.assertLeast(label, {path: (-1, 1)}), -high)

    def test_twelve_places_of_one_list(self):
        label = read_row(", ".join(LETTERS[:12]))
        for at in range(12):
            self.assertEqual(self.assertLeast(label, {(at,): (-1, 1)}), Fraction(-1, at + 1))
            self.assertEqual(self.assertLeast(label, {(at,): (1, 1)}), Fraction(1 if at == 0 else 0, 12))


class Drawn(Leasts):
    def test_told_around_a_making(self):
        deep = set()
        for seed in range(300):
            rng = Random(seed)
            label, making = told_label(rng, rng.choice((0, 0.3, 0.7, 1)), Fraction(rng.choice((0, 1, 3)), 20))
            prices = drawn_prices(rng, label, rng.choice((0, 0.3, 0.7, 1)))
            self.assertMaking(label, making)
            self.assertLessEqual(self.assertLeast(label, prices), costing(prices, making))
            deep |= {(len(label), len(path)) for path in label.paths()}
        self.assertEqual({many for many, _ in deep}, set(range(1, 13)))
        self.assertEqual({depth for _, depth in deep}, {1, 2, 3, 4})

    def test_told_at_random(self):
        words = []
        for seed in range(300):
            rng = Random(seed)
            label = drawn_label(seed, rng.choice((0, 0.1, 0.4, 1))) if seed % 2 else shaken_label(rng)
            words.append(self.assertEither(label, drawn_prices(rng, label, rng.choice((0, 0.5, 1)))))
        self.assertGreater(words.count("least"), 50)
        self.assertGreater(words.count("never"), 50)

    def test_no_drawn_making_costs_less(self):
        for seed in range(60):
            rng = Random(seed)
            label = bare_label(rng)
            prices = drawn_prices(rng, label)
            found = self.assertLeast(label, prices)
            for _ in range(10):
                self.assertLessEqual(found, costing(prices, drawn_making(rng, label)))

    def test_prices_of_twenty_figures(self):
        for seed in range(60):
            rng = Random(seed)
            label, _ = told_label(rng, 0.7)
            self.assertLeast(label, drawn_prices(rng, label, 1, 20))

    def test_told_ends_of_twenty_figures(self):
        bottom = 10 ** 20 - 1
        for seed in range(40):
            rng = Random(seed)
            label, making = told_label(rng, 0)
            told = {}
            for path in label.paths():
                top = int(Fraction(*making[path]) * bottom)
                low, high = rng.randint(top // 2, top), rng.randint(min(top + 1, bottom), bottom)
                told[path] = (as_tuple(Fraction(low, bottom - rng.randint(0, 9))), as_tuple(Fraction(high, bottom)))
                if Fraction(*told[path][0]) > Fraction(*making[path]):
                    told[path] = ((0, 1), told[path][1])
            self.assertLeast(retold(label, told), drawn_prices(rng, label, 1, 20))

    def test_twelve_places_all_told(self):
        places = tuple((name, ((1, 100), as_tuple(Fraction(1, 6 + at))), None) for at, name in enumerate(LETTERS[:12]))
        self.assertLeast(Label(places), {(11,): (1, 1), (0,): (-1, 3)})
        places = tuple((name, ((1, 100), as_tuple(Fraction(1, 16 + at))), None) for at, name in enumerate(LETTERS[:12]))
        self.assertNever(Label(places), {(11,): (1, 1), (0,): (-1, 3)})

    def test_narrower_stretches_never_make_it_cost_less(self):
        for seed in range(120):
            rng = Random(seed)
            label, making = told_label(rng, 0.6, Fraction(1, 4))
            prices = drawn_prices(rng, label)
            found = self.assertLeast(label, prices)
            told = {path: label.told_at(path) for path in label.paths() if label.told_at(path) is not None}
            for path in told:
                low, high = [Fraction(*end) for end in told[path]]
                share = Fraction(*making[path])
                narrower = dict(told)
                narrower[path] = (as_tuple((low + share) / 2), as_tuple((high + share) / 2))
                self.assertLessEqual(found, self.assertLeast(retold(label, narrower), prices))
            for path in label.paths():
                bare = {other: stretch for other, stretch in told.items() if other != path}
                self.assertGreaterEqual(found, self.assertLeast(retold(label, bare), prices))

    def test_an_answer_for_prices_twice_as_great(self):
        for seed in range(60):
            rng = Random(seed)
            label, _ = told_label(rng, 0.5)
            prices = drawn_prices(rng, label)
            twice = {path: as_tuple(2 * Fraction(*price)) for path, price in prices.items()}
            self.assertEqual(self.assertLeast(label, twice), 2 * self.assertLeast(label, prices))

    def test_told_makings_and_papers_handed_in_again(self):
        """What was told may be handed in again, whatever its size [3]."""
        for seed in range(20):
            rng = Random(seed)
            label, _ = told_label(rng, 0.7)
            making = least(label, drawn_prices(rng, label, 1, 20))[2]
            exact = retold(label, {path: (share, share) for path, share in making.items()})
            prices = {path: least(label, drawn_prices(rng, label, 1, 20))[1] for path in label.paths()}
            self.assertEqual(least(exact, prices)[2], making)
            self.assertEqual(self.assertLeast(exact, prices), costing(prices, making))


class SmallOnes(Leasts):
    """Labels of a few places, held against all makings of steps of 1/12."""

    def all_makings(self, label):
        def lists(holder, whole, before):
            many = label.many_in(holder)
            for shares in self.falling(whole, many, whole):
                yield from self.inside(label, [holder + (at,) for at in range(many)], shares, dict(before), lists)

        yield from lists((), 12, {})

    def inside(self, label, paths, shares, found, lists):
        if not paths:
            yield found
            return
        found = {**found, paths[0]: shares[0]}
        if label.many_in(paths[0]) == 0:
            yield from self.inside(label, paths[1:], shares[1:], found, lists)
        else:
            for further in lists(paths[0], shares[0], found):
                yield from self.inside(label, paths[1:], shares[1:], further, lists)

    def falling(self, whole, many, most):
        if many == 0:
            if whole == 0:
                yield []
            return
        for first in range(min(whole, most), -1, -1):
            for others in self.falling(whole - first, many - 1, first):
                yield [first] + others

    def test_against_all(self):
        words = []
        for seed in range(80):
            rng = Random(seed)
            bare = bare_label(rng, 5)
            if len(bare) > 5:
                continue
            told = {path: tuple(as_tuple(Fraction(end, 12)) for end in sorted((rng.randint(0, 9), rng.randint(0, 9))))
                    for path in bare.paths() if rng.random() < 0.4}
            label = retold(bare, told)
            prices = drawn_prices(rng, label)
            makings = [{path: as_tuple(Fraction(share, 12)) for path, share in making.items()}
                       for making in self.all_makings(label)]
            found = [costing(prices, making) for making in makings
                     if all(Fraction(*told[path][0]) <= Fraction(*making[path]) <= Fraction(*told[path][1]) for path in told)]
            word = self.assertEither(label, prices)
            words.append(word)
            if found:
                self.assertEqual(word, "least")
                self.assertLessEqual(Fraction(*least(label, prices)[1]), min(found))
        self.assertGreater(words.count("least"), 15)
        self.assertGreater(words.count("never"), 15)


class Refusals(Leasts):
    NO_PATHS = ((), (3,), (-1,), (0, 0), (1, 2), (2, 0), (1, 0, 0), "flour", "", 0, 1, None, ("0",), ((0,),), b"0",
                frozenset(), object())

    def assertNoPrices(self, prices):
        for label in (CAKE, CLASHING):
            with self.subTest(label=label, prices=prices):
                with self.assertRaises(NoPrices) as caught:
                    least(label, prices)
                self.assertIsInstance(caught.exception, StuffError)

    def test_no_dict(self):
        for thing in NO_DICTS:
            self.assertNoPrices(thing)

    def test_keys_that_are_no_paths(self):
        for key in self.NO_PATHS:
            self.assertNoPrices({key: (1, 1)})
            self.assertNoPrices({(0,): (1, 1), key: (0, 1)})

    def test_prices_that_are_no_fractions(self):
        for price in NO_FRACTIONS:
            self.assertNoPrices({(0,): price})
            self.assertNoPrices({(0,): (1, 1), (1, 1): price, (2,): (1, 1)})


class LaterChanges(Leasts):
    def test_what_is_handed_in_stays_as_it_was(self):
        prices = defaultdict(lambda: (9, 1), {(0,): (1, 1), (2,): (-2, 1)})
        for label in (CAKE, CLASHING):
            row = str(label)
            least(label, prices)
            self.assertEqual(prices, {(0,): (1, 1), (2,): (-2, 1)})
            self.assertEqual(str(label), row)

    def test_answers_are_the_askers_own(self):
        for label in (CAKE, CLASHING, read_row("a, b"), read_row("a 1/2, b 1/2 (c, d 0)")):
            self.assertOwn(lambda: least(label, {(0,): (1, 1)}))
            self.assertOwn(lambda: least(label, {}))

    def test_prices_changed_between_two_calls(self):
        prices = {(0,): (1, 1)}
        first = least(CAKE, prices)
        self.assertEqual(first[1], (2, 5))
        prices[(0,)] = (-1, 1)
        self.assertEqual(least(CAKE, prices)[1], (-1, 2))
        del prices[(0,)]
        self.assertEqual(least(CAKE, prices)[1], (0, 1))
        prices[(2,)] = (1, 1)
        self.assertEqual(least(CAKE, prices)[1], (1, 6))
        self.assertEqual(first[1], (2, 5))
        self.assertEqual(costing({(0,): (1, 1)}, first[2]), Fraction(2, 5))

    def test_prices_in_another_order_are_the_same(self):
        rng = Random(3)
        prices = drawn_prices(rng, CAKE, 1)
        self.assertEqual(least(CAKE, prices), least(CAKE, {path: prices[path] for path in reversed(prices)}))


if __name__ == "__main__":
    unittest.main()
