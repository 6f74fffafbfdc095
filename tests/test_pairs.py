"""Stuffs, their amounts, and whether two labels can be of one making [20]."""

import unittest
from collections import defaultdict
from fractions import Fraction
from random import Random

from judging import NO_DICTS, NO_FRACTIONS, Judging, places_by_path, showing
from samples import LETTERS, as_tuple, bare_label, drawn_label, drawn_recipe, shaken_label, told_label

from stufflists.errors import NoMaking, StuffError
from stufflists.labels import Label
from stufflists.leasts import least
from stufflists.listing import flat, label_of, making_of
from stufflists.pairs import amounts, one_making, stuffs_of
from stufflists.papers import shown
from stufflists.rowtexts import read_row

CAKE = read_row("flour 2/5 to 1/2, choc 1/5 to 1/3 (sugar, cocoa 1/10 to 1), water; may hold nut")
MAKING = {(0,): (9, 20), (1,): (3, 10), (1, 0): (1, 5), (1, 1): (1, 10), (2,): (1, 4)}
NESTED = read_row("mix (oil, dough (oil, rye)), oil, dough (mix (oil), salt), rye")
NESTED_MAKING = {(0,): (1, 2), (0, 0): (1, 4), (0, 1): (1, 4), (0, 1, 0): (1, 8), (0, 1, 1): (1, 8), (1,): (1, 4),
                 (2,): (3, 20), (2, 0): (1, 10), (2, 0, 0): (1, 10), (2, 1): (1, 20), (3,): (1, 10)}


def adding(label, making):
    """The amounts, by the tests' own sums, of stuffs that have some."""
    found = {}
    for path, (name, _, inside) in places_by_path(label).items():
        if inside is None:
            found[name] = found.get(name, Fraction(0)) + Fraction(*making[path])
    return {name: amount for name, amount in found.items() if amount != 0}


class Stuffs(unittest.TestCase):
    def test_plain_places_alone(self):
        self.assertEqual(stuffs_of(CAKE), ["cocoa", "flour", "sugar", "water"])
        self.assertEqual(stuffs_of(read_row("salt")), ["salt"])
        self.assertEqual(stuffs_of(read_row("z, y, x (w (v), a)")), ["a", "v", "y", "z"])

    def test_each_once(self):
        self.assertEqual(stuffs_of(NESTED), ["oil", "rye", "salt"])

    def test_plain_here_and_not_there(self):
        self.assertEqual(stuffs_of(read_row("a (b), c (a)")), ["a", "b"])

    def test_arguments_by_their_names(self):
        self.assertEqual(stuffs_of(label=CAKE), stuffs_of(CAKE))

    def test_told_lists_are_the_askers_own(self):
        stuffs_of(CAKE).clear()
        self.assertEqual(stuffs_of(CAKE), ["cocoa", "flour", "sugar", "water"])


class Amounts(Judging):
    def test_each_stuff(self):
        self.assertEqual(amounts(CAKE, MAKING), {"flour": (9, 20), "sugar": (1, 5), "cocoa": (1, 10), "water": (1, 4)})

    def test_at_several_places_added_up(self):
        self.assertMaking(NESTED, NESTED_MAKING)
        self.assertEqual(amounts(NESTED, NESTED_MAKING), {"oil": (29, 40), "rye": (9, 40), "salt": (1, 20)})

    def test_none_of_a_stuff(self):
        self.assertEqual(amounts(read_row("a, b"), {(0,): (1, 1), (1,): (0, 1)}), {"a": (1, 1), "b": (0, 1)})

    def test_drawn_makings(self):
        for seed in range(150):
            label, making = told_label(Random(seed), 0.3)
            found = amounts(label, making)
            self.assertEqual(sorted(found), stuffs_of(label))
            self.assertEqual({name: Fraction(*amount) for name, amount in found.items() if amount != (0, 1)},
                             adding(label, making))
            self.assertEqual(sum(Fraction(*amount) for amount in found.values()), 1)

    def test_arguments_by_their_names(self):
        self.assertEqual(amounts(making=MAKING, label=CAKE), amounts(CAKE, MAKING))

    def assertNoMaking(self, thing):
        with self.subTest(thing=thing):
            with self.assertRaises(NoMaking) as caught:
                amounts(CAKE, thing)
            self.assertIsInstance(caught.exception, StuffError)

    def test_no_dict(self):
        for thing in NO_DICTS:
            self.assertNoMaking(thing)
        self.assertNoMaking(list(MAKING.items()))

    def test_other_paths(self):
        for path in MAKING:
            self.assertNoMaking({other: share for other, share in MAKING.items() if other != path})
        for key in ((), (3,), (1, 2), (0, 0), (-1,), "flour", 0, None):
            self.assertNoMaking({**MAKING, key: (0, 1)})

    def test_no_fractions_from_nought(self):
        for share in NO_FRACTIONS + ((-1, 4),):
            self.assertNoMaking({**MAKING, (2,): share})

    def test_other_sums_order_and_stretches(self):
        self.assertNoMaking({**MAKING, (2,): (1, 5)})
        self.assertNoMaking({**MAKING, (1, 0): (1, 4)})
        self.assertNoMaking({**MAKING, (1, 0): (1, 10), (1, 1): (1, 5)})
        self.assertNoMaking({**MAKING, (0,): (2, 5), (1,): (29, 100), (1, 0): (19, 100), (2,): (31, 100)})
        self.assertNoMaking({**MAKING, (0,): (11, 20), (2,): (3, 20)})

    def test_later_changes(self):
        making = defaultdict(lambda: (0, 1), MAKING)
        self.assertOwn(lambda: amounts(CAKE, making))
        self.assertEqual(making, MAKING)


class Pairs(Judging):
    def assertOne(self, one, other):
        word, *makings = one_making(one, other)
        self.assertEqual((word, len(makings)), ("one", 2))
        self.assertMaking(one, makings[0])
        self.assertMaking(other, makings[1])
        self.assertEqual(adding(one, makings[0]), adding(other, makings[1]))
        return makings

    def assertNever(self, one, other):
        told = one_making(one, other)
        self.assertEqual((told[0], len(told)), ("never", 4))
        prices, papers = told[1], told[2:]
        self.assertIs(type(prices), dict)
        self.assertEqual(set(prices), set(stuffs_of(one)) | set(stuffs_of(other)))
        found = []
        for sign, label, paper in zip((1, -1), (one, other), papers):
            by_path = {path: as_tuple(sign * Fraction(*prices[name]))
                       for path, (name, _, inside) in places_by_path(label).items() if inside is None}
            found.append(showing(label, by_path, paper))
            self.assertEqual(as_tuple(found[-1]), shown(label, by_path, paper))
        self.assertGreater(sum(found), 0)

    def assertEither(self, one, other):
        word = one_making(one, other)[0]
        if word == "one":
            self.assertOne(one, other)
        else:
            self.assertNever(one, other)
        return word

    def assertBothWays(self, word, one, other):
        self.assertEqual(self.assertEither(read_row(one), read_row(other)), word)
        self.assertEqual(self.assertEither(read_row(other), read_row(one)), word)


class Written(Pairs):
    def test_of_one_making(self):
        for one, other in (("a", "a"), ("a, b", "b, a"), ("a, b, c", "c, b, a"), ("a (b, c), d", "b, d, c"),
                           ("a (b, c), d", "d, b, c"), ("a (b)", "b"), ("a 2/3, b", "a, b 1/3"),
                           ("a (b, c), d (b)", "b, c"), ("a (b, c), b", "c (b)"),
                           ("a 1/3 to 1/2, b, c", "b 1/3 to 2/5, a, c"), ("a (x, y), b", "c (y, x), b")):
            self.assertBothWays("one", one, other)

    def test_the_making_of_both(self):
        one, other = self.assertOne(read_row("a, b, c"), read_row("c, b, a"))
        self.assertEqual(set(one.values()) | set(other.values()), {(1, 3)})
        one, other = self.assertOne(read_row("a (b, c), d (b, e)"), read_row("b 3/4, e"))
        self.assertEqual(adding(read_row("a (b, c), d (b, e)"), one), {"b": Fraction(3, 4), "e": Fraction(1, 4)})

    def test_never_of_one_making(self):
        for one, other in (("a", "b"), ("a, b 1/3", "a, b 1/4"), ("a 3/5, b", "b, a"), ("a, b 1/10 to 1/2", "a, c"),
                           ("a (b, c 1/5), d", "b 9/10 to 1, c, d"), ("a (b)", "a"), ("a, b, c", "c 2/5 to 1, b, a")):
            self.assertBothWays("never", one, other)

    def test_stuffs_that_lack_in_the_one(self):
        self.assertBothWays("one", "a, b, c", "a")
        self.assertBothWays("one", "a, b", "a, c")
        self.assertBothWays("one", "a, b (c)", "a")
        self.assertBothWays("never", "a, b", "b")
        self.assertBothWays("never", "a, b", "c")
        self.assertBothWays("never", "a, b 1/100", "a")
        one, other = self.assertOne(read_row("a, b, c"), read_row("a, d"))
        self.assertEqual((one, other), ({(0,): (1, 1), (1,): (0, 1), (2,): (0, 1)}, {(0,): (1, 1), (1,): (0, 1)}))

    def test_a_made_stuffs_name_is_no_stuff(self):
        self.assertBothWays("never", "choc (sugar)", "choc")
        self.assertBothWays("one", "choc (sugar)", "candy (sugar)")

    def test_one_of_them_without_makings(self):
        for row in ("a", "a, b", "b 1/2, a"):
            self.assertBothWays("never", "a 1/2", row)
            self.assertBothWays("never", "a, b 3/5", row)
        self.assertBothWays("never", "a 1/2", "a 1/2")
        self.assertBothWays("never", "a, b 3/5", "c 0")

    def test_words_do_not_count(self):
        self.assertBothWays("one", "a; may hold b", "a; may hold c")

    def test_arguments_by_their_names(self):
        one, other = read_row("a, b"), read_row("a 3/5, b")
        self.assertEqual(one_making(other=other, one=one), one_making(one, other))


class Drawn(Pairs):
    def test_a_label_with_itself(self):
        words = []
        for seed in range(120):
            rng = Random(seed)
            label = told_label(rng, 0.5)[0] if seed % 2 else shaken_label(rng)
            words.append(self.assertEither(label, label))
            self.assertEqual(words[-1] == "one", least(label, {})[0] == "least")
        self.assertGreater(min(words.count("one"), words.count("never")), 10)

    def test_a_recipe_and_its_flat_one(self):
        for seed in range(100):
            rng = Random(seed)
            recipe = drawn_recipe(seed)
            tell = rng.sample(list(LETTERS[:6]) + ["water"], rng.randint(0, 4))
            near = rng.choice((0, 1, 7, 100))
            one, other = label_of(recipe, tell, near), label_of(flat(recipe), tell, near)
            self.assertOne(one, other)
            self.assertOne(other, one)
            self.assertEqual(adding(one, making_of(recipe)), adding(other, making_of(flat(recipe))))

    def test_any_two(self):
        words = []
        for seed in range(200):
            rng = Random(seed)
            one, other = [told_label(rng, 0.2, Fraction(1, 2))[0] for _ in range(2)]
            words.append(self.assertEither(one, other))
            self.assertEqual(one_making(other, one)[0], words[-1])
        self.assertGreater(words.count("one"), 10)
        self.assertGreater(words.count("never"), 20)

    def test_the_same_stuffs_in_another_order(self):
        words = []
        for seed in range(120):
            rng = Random(seed)
            one = told_label(rng, 0.5, Fraction(1, 4), 6)[0]
            stuffs = stuffs_of(one)
            rng.shuffle(stuffs)
            other = Label(tuple((stuff, None, None) for stuff in stuffs))
            words.append(self.assertEither(one, other))
        self.assertGreater(words.count("one"), 20)
        self.assertGreater(words.count("never"), 20)

    def test_twelve_places_each(self):
        one = read_row(", ".join(LETTERS[:12]))
        other = read_row(", ".join(reversed(LETTERS[:12])))
        self.assertEqual(set(self.assertOne(one, other)[0].values()), {(1, 12)})
        told = read_row("a 1/11, " + ", ".join(f"{name} 1/100 to 1/11" for name in LETTERS[1:12]))
        self.assertNever(told, other)
        self.assertOne(told, one)

    def test_labels_drawn_at_random(self):
        for seed in range(80):
            self.assertEither(drawn_label(seed), bare_label(Random(seed)))


class LaterChanges(Pairs):
    def test_answers_are_the_askers_own(self):
        for one, other in (("a", "a"), ("a (b, c), d", "d, b, c"), ("a, b 1/3", "a, b 1/4"), ("a 1/2", "b")):
            one, other = read_row(one), read_row(other)
            self.assertOwn(lambda: one_making(one, other))
            self.assertOwn(lambda: one_making(one, one))


if __name__ == "__main__":
    unittest.main()
