"""The fewest told shares that settle a wish, and the tree that shows that no fewer do [22]."""

import unittest
from collections import defaultdict
from fractions import Fraction
from itertools import combinations
from random import Random

from judging import NO_DICTS, NO_FRACTIONS, NO_LISTS, NO_NAMES, Judging, counting, places_by_path, sharing
from samples import LETTERS, around_share, as_tuple, bare_label, drawn_making, drawn_recipe

from stufflists.errors import NoMaking, NoWish, StuffError, TooMany
from stufflists.labels import retold
from stufflists.listing import label_of, making_of
from stufflists.rowtexts import read_row
from stufflists.spreads import spread
from stufflists.tells import fewest

CAKE = read_row("flour 2/5 to 1/2, choc 1/5 to 1/3 (sugar, cocoa 1/10 to 1), water; may hold nut")
MAKING = {(0,): (9, 20), (1,): (3, 10), (1, 0): (1, 5), (1, 1): (1, 10), (2,): (1, 4)}
SIX = read_row("a, b, c, d, e, f")
SIXTHS = {(at,): (1, 6) for at in range(6)}
SEVEN = read_row("a, b, c, d, e, f, g")


def truly(label, making, paths):
    """The label told truly at these paths."""
    told = {path: place[1] for path, place in places_by_path(label).items() if place[1] is not None}
    told.update({path: (making[path], making[path]) for path in paths})
    return retold(label, told)


def is_held(label, making, wish):
    share, bound = sharing(label, wish[1], making), Fraction(*wish[2])
    return share <= bound if wish[0] == "most" else share >= bound


def is_held_in_all(label, wish):
    low, high = spread(label, wish[1])[:2]
    return Fraction(*high) <= Fraction(*wish[2]) if wish[0] == "most" else Fraction(*low) >= Fraction(*wish[2])


class Fewest(Judging):
    def assertFewest(self, label, making, wish):
        told = fewest(label, making, wish)
        self.assertIsInstance(told, tuple)
        paths, paper, tree = told
        self.assertIs(type(paths), list)
        self.assertEqual(paths, sorted(set(paths)))
        self.assertLessEqual(set(paths), set(label.paths()))
        sign = -1 if wish[0] == "most" else 1
        prices = {path: (sign, 1) for path in counting(label, wish[1])}
        self.assertShows(truly(label, making, paths), prices, paper, sign * Fraction(*wish[2]))
        if paths:
            self.assertNode(label, making, wish, tree, [], len(paths))
        else:
            self.assertIsNone(tree)
        return paths

    def assertNode(self, label, making, wish, node, came_by, many):
        self.assertIs(type(node), tuple)
        shares, beyond = node
        self.assertMaking(truly(label, making, came_by), shares)
        self.assertFalse(is_held(label, shares, wish))
        self.assertIs(type(beyond), dict)
        if len(came_by) == many - 1:
            self.assertEqual(beyond, {})
        else:
            self.assertEqual(set(beyond), {path for path in shares if shares[path] != making[path]})
            for path in beyond:
                self.assertNode(label, making, wish, beyond[path], came_by + [path], many)

    def assertNoFewer(self, label, making, wish, many):
        """No fewer paths settle the wish, by trying all."""
        for fewer in range(many):
            for paths in combinations(label.paths(), fewer):
                self.assertFalse(is_held_in_all(truly(label, making, paths), wish))


class Written(Fewest):
    def test_a_wish_that_holds_in_all_makings(self):
        for wish in (("most", ["flour"], (1, 2)), ("most", ["flour"], (1, 1)), ("least", ["flour"], (2, 5)),
                     ("least", ["flour"], (0, 1)), ("most", ["choc", "cocoa"], (1, 3)), ("least", ["cocoa"], (1, 10)),
                     ("most", ["flour", "choc", "water"], (1, 1)), ("least", ["flour", "choc", "water"], (1, 1))):
            self.assertEqual(self.assertFewest(CAKE, MAKING, wish), [])

    def test_shares_beyond_nought_and_one(self):
        self.assertEqual(self.assertFewest(CAKE, MAKING, ("most", ["flour"], (7, 2))), [])
        self.assertEqual(self.assertFewest(CAKE, MAKING, ("least", ["flour"], (-7, 2))), [])

    def test_by_one_path(self):
        self.assertEqual(self.assertFewest(CAKE, MAKING, ("most", ["flour"], (9, 20))), [(0,)])
        self.assertEqual(self.assertFewest(CAKE, MAKING, ("least", ["flour"], (9, 20))), [(0,)])
        self.assertEqual(self.assertFewest(CAKE, MAKING, ("most", ["water"], (1, 4))), [(2,)])
        self.assertEqual(len(self.assertFewest(CAKE, MAKING, ("most", ["sugar"], (11, 50)))), 1)

    def test_no_names(self):
        self.assertEqual(self.assertFewest(CAKE, MAKING, ("most", [], (0, 1))), [])
        self.assertEqual(self.assertFewest(CAKE, MAKING, ("least", [], (0, 1))), [])
        self.assertEqual(self.assertFewest(CAKE, MAKING, ("most", (), (1, 10))), [])

    def test_names_of_no_place(self):
        self.assertEqual(self.assertFewest(CAKE, MAKING, ("most", ["nut", "egg"], (0, 1))), [])
        self.assertEqual(self.assertFewest(CAKE, MAKING, ("most", ["nut", "flour"], (9, 20))), [(0,)])

    def test_names_at_several_places(self):
        label = read_row("a (x, y), b (x, z)")
        making = {(0,): (3, 5), (0, 0): (2, 5), (0, 1): (1, 5), (1,): (2, 5), (1, 0): (3, 10), (1, 1): (1, 10)}
        for wish in (("most", ["x"], (7, 10)), ("least", ["x"], (7, 10))):
            paths = self.assertFewest(label, making, wish)
            self.assertEqual(len(paths), 2)
            self.assertNoFewer(label, making, wish, 2)
        self.assertEqual(len(self.assertFewest(label, making, ("most", ["x"], (4, 5)))), 1)

    def test_by_several_paths(self):
        label = read_row("a, b, c, d, e, f")
        making = {(0,): (3, 10), (1,): (1, 4), (2,): (1, 5), (3,): (1, 8), (4,): (1, 10), (5,): (1, 40)}
        wish = ("least", ["a", "c", "e"], (3, 5))
        many = len(self.assertFewest(label, making, wish))
        self.assertEqual(many, 3)
        self.assertNoFewer(label, making, wish, many)

    def test_at_just_the_share_and_a_little_beside(self):
        tiny = Fraction(1, 10 ** 15)
        for sign, word in ((1, "most"), (-1, "least")):
            self.assertEqual(len(self.assertFewest(CAKE, MAKING, (word, ["cocoa"], (1, 10)))), 1 if sign == 1 else 0)
            near = as_tuple(Fraction(1, 5) + sign * tiny)
            self.assertEqual(len(self.assertFewest(CAKE, MAKING, (word, ["sugar"], near))),
                             len(self.assertFewest(CAKE, MAKING, (word, ["sugar"], (1, 5)))))
            with self.assertRaises(NoWish):
                fewest(CAKE, MAKING, (word, ["sugar"], as_tuple(Fraction(1, 5) - sign * tiny)))

    def test_what_was_told_is_told_truly_in_its_place(self):
        label = read_row("a 1/2 to 9/10, b 1/10 to 1/2")
        making = {(0,): (7, 10), (1,): (3, 10)}
        self.assertEqual(self.assertFewest(label, making, ("most", ["a"], (7, 10))), [(0,)])

    def test_six_places(self):
        self.assertEqual(self.assertFewest(SIX, SIXTHS, ("most", ["a"], (1, 6))), [(0,)])
        self.assertEqual(self.assertFewest(SIX, SIXTHS, ("least", ["f"], (1, 6))), [(0,)])
        self.assertEqual(self.assertFewest(SIX, SIXTHS, ("least", list(LETTERS), (1, 1))), [])

    def test_arguments_by_their_names(self):
        wish = ("most", ["flour"], (9, 20))
        self.assertEqual(fewest(wish=wish, making=MAKING, label=CAKE), fewest(CAKE, MAKING, wish))


class Drawn(Fewest):
    def drawn_label(self, rng, row):
        """A label of this row, at times with something told, and a making of it that has all shares above 0."""
        label = read_row(row)
        making = {}
        for path in label.paths():
            if path[-1] == 0:
                weights = sorted((rng.randint(3, 40) for _ in range(label.many_in(path[:-1]))), reverse=True)
                whole = Fraction(*making.get(path[:-1], (1, 1)))
                for at, weight in enumerate(weights):
                    making[path[:-1] + (at,)] = as_tuple(whole * Fraction(weight, sum(weights)))
        chance = rng.choice((0, 0, 0.3))
        told = {path: around_share(rng, making[path], Fraction(1, 8)) for path in making if rng.random() < chance}
        return retold(label, told), making

    def test_drawn_labels(self):
        sizes = {}
        rows = ("a, b", "a (b), c", "a, b, c, d", "a (b, c), d (b, c)", "a (b, c), d (b, e)", "a (b, c, d), b, e",
                "a, b, c (a, b, d)", "a (b (c, d), e), c", "a, b (c, a), d, e", "a, b, c, d, e, f", "a (b, c, d, e, f)")
        for seed in range(132):
            rng = Random(seed)
            label, making = self.drawn_label(rng, rows[seed // 12])
            word = rng.choice(("most", "least"))
            names = rng.sample("abcdef", rng.choice((1, 2, 3)))
            share = sharing(label, names, making)
            low, high = spread(label, names)[:2]
            end = Fraction(*(high if word == "most" else low))
            for bound in (share, (4 * share + end) / 5, (share + end) / 2):
                wish = (word, rng.choice((list, tuple))(names), as_tuple(bound))
                many = len(self.assertFewest(label, making, wish))
                self.assertNoFewer(label, making, wish, many)
                sizes[many] = sizes.get(many, 0) + 1
        self.assertGreater(min(sizes[0], sizes[1], sizes[2]), 20)

    def test_flat_labels_of_six(self):
        sizes = set()
        for seed in range(25):
            rng = Random(seed)
            making = drawn_making(rng, SIX)
            names = rng.sample("abcdef", 3)
            wish = (rng.choice(("most", "least")), names, as_tuple(sharing(SIX, names, making)))
            many = len(self.assertFewest(SIX, making, wish))
            self.assertNoFewer(SIX, making, wish, many)
            sizes.add(many)
        self.assertGreater(max(sizes), 2)

    def test_labels_of_recipes(self):
        for seed in range(60):
            rng = Random(seed)
            recipe = drawn_recipe(seed)
            label, own = label_of(recipe, ["a", "water"], 5), making_of(recipe)
            if len(label) <= 6:
                for word in ("most", "least"):
                    wish = (word, ["b", "water"], as_tuple(sharing(label, ["b", "water"], own)))
                    self.assertFewest(label, own, wish)


class Refusals(Fewest):
    WISH = ("most", ["flour"], (1, 2))

    def assertRefused(self, error, *asked):
        with self.subTest(asked=asked):
            with self.assertRaises(error) as caught:
                fewest(*asked)
            self.assertIsInstance(caught.exception, StuffError)

    def test_too_many(self):
        sevenths = {(at,): (1, 7) for at in range(7)}
        self.assertRefused(TooMany, SEVEN, sevenths, ("most", ["a"], (1, 1)))
        label = read_row("a (b (c, d)), e (f, g)")
        self.assertRefused(TooMany, label, drawn_making(Random(1), label), ("most", [], (0, 1)))
        twelve = bare_label(Random(0))
        self.assertRefused(TooMany if len(twelve) > 6 else NoMaking, twelve, None, None)

    def test_no_making(self):
        for thing in NO_DICTS + ({}, {**MAKING, (0,): (1, 2)}, {**MAKING, (3,): (0, 1)}, {**MAKING, (2,): 0},
                                 {**MAKING, (0,): (7, 20), (2,): (7, 20)},
                                 {path: MAKING[path] for path in list(MAKING)[1:]}):
            self.assertRefused(NoMaking, CAKE, thing, self.WISH)

    def test_a_label_without_makings(self):
        self.assertRefused(NoMaking, read_row("salt 1/2"), {(0,): (1, 1)}, ("most", ["salt"], (1, 1)))
        self.assertRefused(NoMaking, read_row("salt 1/2"), {(0,): (1, 2)}, ("most", ["salt"], (1, 1)))

    def test_no_wish(self):
        for thing in (None, 0, True, "", "most", b"most", (), ("most",), ("most", ["flour"]), [*self.WISH],
                      ("most", ["flour"], (1, 2), None), {0: "most", 1: [], 2: (1, 2)}, object(), {}):
            self.assertRefused(NoWish, CAKE, MAKING, thing)
        for word in ("", "Most", "more", "leas", "most ", None, 0, True, ["most"], ("most",), b"most", object()):
            self.assertRefused(NoWish, CAKE, MAKING, (word, ["flour"], (9, 20)))
        for names in NO_LISTS:
            self.assertRefused(NoWish, CAKE, MAKING, ("most", names, (1, 1)))
            self.assertRefused(NoWish, CAKE, MAKING, ("least", names, (0, 1)))
        for name in NO_NAMES:
            self.assertRefused(NoWish, CAKE, MAKING, ("most", ["flour", name], (1, 1)))
            self.assertRefused(NoWish, CAKE, MAKING, ("least", (name, "flour"), (0, 1)))
        for share in NO_FRACTIONS:
            self.assertRefused(NoWish, CAKE, MAKING, ("most", ["flour"], share))
            self.assertRefused(NoWish, CAKE, MAKING, ("least", ["flour"], share))

    def test_a_wish_that_does_not_hold(self):
        for wish in (("most", ["flour"], (449, 1000)), ("least", ["flour"], (451, 1000)), ("most", [], (-1, 10)),
                     ("least", [], (1, 10 ** 19)), ("least", ["nut"], (1, 100)), ("most", ["choc", "cocoa"], (29, 100))):
            self.assertRefused(NoWish, CAKE, MAKING, wish)

    def test_more_than_one_due_at_once(self):
        self.assertRefused(TooMany, SEVEN, None, None)
        self.assertRefused(TooMany, SEVEN, {(at,): (1, 7) for at in range(7)}, None)
        self.assertRefused(TooMany, SEVEN, {}, ("most", ["a"], (1, 1)))
        self.assertRefused(NoMaking, CAKE, None, None)
        self.assertRefused(NoMaking, CAKE, {}, ("most", ["flour"], (-1, 1)))


class LaterChanges(Fewest):
    def test_what_is_handed_in_stays_as_it_was(self):
        names, making = ["flour", "sugar"], defaultdict(lambda: (0, 1), MAKING)
        fewest(CAKE, making, ("least", names, (13, 20)))
        self.assertEqual(names, ["flour", "sugar"])
        self.assertEqual(making, MAKING)

    def test_answers_are_the_askers_own(self):
        making = {(0,): (3, 10), (1,): (1, 4), (2,): (1, 5), (3,): (1, 8), (4,): (1, 10), (5,): (1, 40)}
        self.assertOwn(lambda: fewest(CAKE, MAKING, ("most", ["flour"], (1, 2))))
        self.assertOwn(lambda: fewest(CAKE, MAKING, ("least", ["sugar"], (1, 5))))
        self.assertOwn(lambda: fewest(SIX, making, ("least", ["a", "c"], (1, 2))))

    def test_a_making_changed_later(self):
        making = dict(MAKING)
        wish = ("most", ["flour"], (9, 20))
        told = fewest(CAKE, making, wish)
        making.update({(0,): (1, 2), (2,): (1, 5)})
        self.assertEqual(told, fewest(CAKE, MAKING, wish))
        with self.assertRaises(NoWish):
            fewest(CAKE, making, wish)


if __name__ == "__main__":
    unittest.main()
