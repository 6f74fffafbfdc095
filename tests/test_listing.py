"""The label of a recipe, its own making, the flat recipe [13]."""

import unittest
from fractions import Fraction

from samples import LETTERS, as_tuple, drawn_recipe

from stufflists.errors import NoName, NoNear
from stufflists.labels import Label
from stufflists.linetexts import lines_of, read_lines
from stufflists.listing import flat, label_of, making_of
from stufflists.recipes import Recipe
from stufflists.rowtexts import read_row

SALT = ("salt", (1, 2), None)
WATER = ("water", (3, 1), None)
RYE = ("rye", (2, 1), None)
DOUGH = Recipe([RYE, ("water", (4, 1), None), ("salt", (1, 1), None)], (3, 1))

# choc 5 (sugar 6, paste 4 (bean 1, fat 3)), water 4 of 6, dough 1 (rye 2, salt 1, water 1)
CAKE = Recipe([
    ("dough", (1, 1), DOUGH),
    ("water", (6, 1), None),
    ("choc", (5, 1), Recipe([
        ("paste", (4, 1), Recipe([("bean", (1, 1), None), ("fat", (3, 1), None)])),
        ("sugar", (6, 1), None),
    ])),
], (2, 1))
CAKE_ROW = "choc (sugar, paste (fat, bean)), water, dough (rye, salt, water)"
CAKE_MAKING = {
    (0,): (1, 2), (0, 0): (3, 10), (0, 1): (1, 5), (0, 1, 0): (3, 20), (0, 1, 1): (1, 20),
    (1,): (2, 5),
    (2,): (1, 10), (2, 0): (1, 20), (2, 1): (1, 40), (2, 2): (1, 40),
}


def recipe_of(**weights):
    return Recipe([(name, as_tuple(Fraction(weight)), None) for name, weight in weights.items()])


class Places(unittest.TestCase):
    def assertRow(self, row, recipe, *told):
        label = label_of(recipe, *told)
        self.assertIsInstance(label, Label)
        self.assertEqual(str(label), row)

    def test_by_what_is_left(self):
        self.assertRow("c, a, b", recipe_of(a=2, b=1, c=3))
        self.assertRow("c, a, b", recipe_of(a="1/3", b="1/4", c="1/2"))
        self.assertRow("a, b", recipe_of(b="99999999999999999999/10000000000000000000", a=10))

    def test_alike_ones_by_name(self):
        self.assertRow("a, b, c, d", recipe_of(d=1, b=1, c=1, a=1))
        self.assertRow("z, aa, b, y", recipe_of(y=1, b=1, z=2, aa=1))

    def test_by_what_is_left_not_by_weight(self):
        self.assertRow("water, salt", Recipe([SALT, WATER]))
        self.assertRow("water, salt", Recipe([SALT, WATER], (12, 5)))
        self.assertRow("salt, water", Recipe([SALT, WATER], (5, 2)))
        self.assertRow("salt, water", Recipe([SALT, WATER], (13, 5)))

    def test_nothing_left_has_no_place(self):
        self.assertRow("salt", Recipe([SALT, WATER], (3, 1)))
        self.assertRow("dough (rye, salt)", Recipe([("dough", (1, 1), Recipe([WATER, SALT, RYE], (3, 1)))]))

    def test_another_name_for_the_water(self):
        self.assertRow("water, rye, milk", Recipe([("milk", (5, 1), None), RYE, WATER], (4, 1), "milk"))

    def test_within_parts(self):
        self.assertRow(CAKE_ROW, CAKE)
        self.assertEqual(len(label_of(CAKE)), 10)

    def test_four_deep(self):
        recipe = recipe_of(d=1, c=1)
        for name in ("x", "y", "z"):
            recipe = Recipe([("a", (1, 1), None), (name, (1, 1), recipe)])
        self.assertRow("a, z (a, y (a, x (c, d)))", recipe)

    def test_twelve_places(self):
        self.assertRow(", ".join(LETTERS[:12]), recipe_of(**{name: 1 for name in LETTERS[11::-1]}))


class Told(unittest.TestCase):
    def assertTold(self, told, *args):
        """The stretches told, by their names: no name is twice in these recipes."""
        label = label_of(*args)
        found = {label.name_at(path): label.told_at(path) for path in label.paths()}
        self.assertEqual({name: stretch for name, stretch in found.items() if stretch is not None}, told)

    def test_none(self):
        for names in (None, [], ()):
            self.assertTold({}, recipe_of(a=3, b=1), names)
            self.assertTold({}, recipe_of(a=3, b=1), names, 7)

    def test_just(self):
        self.assertTold({"a": ((3, 4), (3, 4))}, recipe_of(a=3, b=1), ["a"])
        self.assertTold({"a": ((3, 4), (3, 4)), "b": ((1, 4), (1, 4))}, recipe_of(a=3, b=1), ["b", "a"], 0)
        self.assertTold({"a": ((1, 1), (1, 1))}, recipe_of(a=3), ("a",))

    def test_shares_within_are_of_the_whole_ware(self):
        label = label_of(CAKE, ["bean", "paste", "water", "salt"])
        self.assertEqual(str(label), "choc (sugar, paste 1/5 (fat, bean 1/20)), water 2/5, dough (rye, salt 1/40, water 1/40)")

    def test_by_a_near_on_between_and_at_one(self):
        recipe = recipe_of(a=3, b=1)
        self.assertTold({"a": ((3, 4), (1, 1)), "b": ((1, 4), (1, 2))}, recipe, ["a", "b"], 4)
        self.assertTold({"a": ((1, 2), (1, 1)), "b": ((0, 1), (1, 2))}, recipe, ["a", "b"], 2)
        self.assertTold({"a": ((7, 10), (4, 5)), "b": ((1, 5), (3, 10))}, recipe, ["a", "b"], 10)
        self.assertTold({"a": ((3, 4), (751, 1000)), "b": ((1, 4), (251, 1000))}, recipe, ["a", "b"], 1000)
        self.assertTold({"a": ((0, 1), (1, 1)), "b": ((0, 1), (1, 1))}, recipe, ["a", "b"], 1)
        for near in (1, 2, 3, 1000):
            self.assertTold({"a": ((1, 1), (1, 1))}, recipe_of(a=5), ["a"], near)

    def test_just_below_and_above_a_step(self):
        most = 10 ** 18
        recipe = recipe_of(a=Fraction(most // 2 + 1, most), b=Fraction(most // 2 - 1, most))
        self.assertTold({"a": ((1, 2), (1, 1)), "b": ((0, 1), (1, 2))}, recipe, ["a", "b"], 2)

    def test_all_nears(self):
        for seed in range(12):
            recipe = drawn_recipe(seed)
            making = making_of(recipe)
            names = list(LETTERS) + ["water"]
            for near in list(range(1, 14)) + [97, 999, 1000]:
                label = label_of(recipe, names, near)
                for path, share in making.items():
                    k = max(k for k in range(near + 1) if Fraction(k, near) <= Fraction(*share))
                    told = (as_tuple(Fraction(k, near)), as_tuple(min(Fraction(k + 1, near), Fraction(1))))
                    self.assertEqual(label.told_at(path), told)

    def test_names_of_no_place(self):
        self.assertTold({}, recipe_of(a=3, b=1), ["c", "dd"])
        self.assertTold({"a": ((3, 4), (3, 4))}, recipe_of(a=3, b=1), ["c", "a", "c", "a"])
        self.assertTold({"salt": ((1, 1), (1, 1))}, Recipe([SALT, WATER], (3, 1)), ["water", "salt"])

    def test_by_names_of_arguments(self):
        label = label_of(may=["nut"], near=4, tell=["a"], recipe=recipe_of(a=3, b=1))
        self.assertEqual(str(label), "a 3/4 to 1, b; may hold nut")


class Words(unittest.TestCase):
    def test_words(self):
        recipe = recipe_of(a=3, b=1)
        self.assertEqual(label_of(recipe).may(), [])
        self.assertEqual(label_of(recipe, None, 0, None).may(), [])
        self.assertEqual(label_of(recipe, None, 0, ["nut", "egg", "nut"]).may(), ["egg", "nut"])
        self.assertEqual(label_of(recipe, None, 0, ("nut", "a")).may(), ["a", "nut"])


class Refusals(unittest.TestCase):
    RECIPE = recipe_of(a=3, b=1)
    NO_NAMES = ("", "A", "abcdefghi", None, 0, True, b"a", ["a"], ("a",), {}, object())
    NO_LISTS = ("a", "", 0, 1, True, False, {}, {"a": 1}, {"a"}, b"a", object())

    def assertNoName(self, number, *args):
        with self.assertRaises(NoName) as caught:
            label_of(self.RECIPE, *args)
        self.assertEqual(caught.exception.number, number)

    def assertNoNear(self, *args):
        with self.assertRaises(NoNear):
            label_of(self.RECIPE, *args)

    def test_names_to_tell(self):
        for thing in self.NO_NAMES:
            self.assertNoName(0, [thing])
            self.assertNoName(2, ["a", "b", thing, thing])
            self.assertNoName(1, ("zz", thing))
        for thing in self.NO_LISTS:
            self.assertNoName(-1, thing)

    def test_words(self):
        for thing in self.NO_NAMES:
            self.assertNoName(0, None, 0, [thing])
            self.assertNoName(2, ["a"], 10, ("a", "b", thing, thing))
        for thing in self.NO_LISTS:
            self.assertNoName(-1, None, 0, thing)

    def test_nears(self):
        for near in (-1, 1001, 10 ** 9, True, False, None, "1", "", (1, 1), [1], b"1", {}, object()):
            self.assertNoNear(None, near)
            self.assertNoNear(["a"], near, ["nut"])
        for near in (0, 1, 1000):
            self.assertEqual(len(label_of(self.RECIPE, None, near)), 2)

    def test_names_ahead_of_near_ahead_of_words(self):
        self.assertNoName(1, ["a", ""], -1, [""])
        self.assertNoName(-1, 7, None, 7)
        self.assertNoNear(["a"], 1001, [""])
        self.assertNoNear(None, "x", 7)


class Makings(unittest.TestCase):
    def test_shares(self):
        self.assertEqual(making_of(CAKE), CAKE_MAKING)
        self.assertEqual(making_of(recipe_of(a=1, b=3)), {(0,): (3, 4), (1,): (1, 4)})
        self.assertEqual(making_of(recipe=Recipe([SALT, WATER], (3, 1))), {(0,): (1, 1)})

    def test_drawn_recipes(self):
        for seed in range(200):
            recipe = drawn_recipe(seed)
            making, label = making_of(recipe), label_of(recipe)
            self.assertEqual(list(making), label.paths())
            self.assertEqual(sum(Fraction(*making[path]) for path in making if len(path) == 1), 1)
            self.assertMade(recipe, label, making, (), Fraction(1))

    def assertMade(self, recipe, label, making, above, share):
        """Each place's share and order, gone through from part to part."""
        parts = {name: inside for name, weight, inside in recipe.parts() if recipe.left(name) != (0, 1)}
        self.assertEqual(label.many_in(above), len(parts))
        rows = []
        for at in range(len(parts)):
            path = above + (at,)
            name = label.name_at(path)
            left = Fraction(*recipe.left(name))
            rows.append((-left, name))
            self.assertEqual(Fraction(*making[path]), share * left / Fraction(*recipe.whole()))
            if parts[name] is None:
                self.assertEqual(label.many_in(path), 0)
            else:
                self.assertMade(parts[name], label, making, path, Fraction(*making[path]))
        self.assertEqual(rows, sorted(rows))


class Flat(unittest.TestCase):
    def test_names_weights_and_water(self):
        recipe = flat(CAKE)
        self.assertIsInstance(recipe, Recipe)
        self.assertEqual(recipe.parts(), [
            ("bean", (1, 20), None), ("fat", (3, 20), None), ("rye", (1, 20), None), ("salt", (1, 40), None),
            ("sugar", (3, 10), None), ("water", (17, 40), None)])
        self.assertEqual(recipe.cooked(), (0, 1))
        self.assertEqual(recipe.water(), "water")
        self.assertEqual(recipe.whole(), (1, 1))

    def test_water_of_another_name(self):
        recipe = flat(recipe=Recipe([("milk", (5, 1), None), RYE], (4, 1), "milk"))
        self.assertEqual(recipe.parts(), [("milk", (1, 3), None), ("rye", (2, 3), None)])
        self.assertEqual(recipe.water(), "water")
        self.assertEqual(recipe, Recipe([("milk", (1, 3), None), ("rye", (2, 3), None)]))

    def test_a_name_that_is_plain_here_and_not_there(self):
        recipe = Recipe([("dough", (1, 1), recipe_of(rye=1)), ("mix", (1, 1), recipe_of(dough=1, rye=1))])
        self.assertEqual(flat(recipe).parts(), [("dough", (1, 4), None), ("rye", (3, 4), None)])

    def test_nothing_left_is_no_part(self):
        self.assertEqual(flat(Recipe([WATER, SALT], (3, 1))).parts(), [("salt", (1, 1), None)])

    def test_flat_of_flat(self):
        for seed in range(100):
            once = flat(drawn_recipe(seed))
            self.assertEqual(flat(once), once)
            self.assertEqual(once.whole(), (1, 1))
            names = [part[0] for part in once.parts()]
            self.assertEqual(names, sorted(set(names)))


class TextsOfListed(unittest.TestCase):
    def test_read_back(self):
        for seed in range(60):
            label = label_of(drawn_recipe(seed), ["a", "c", "water"], seed, ["nut"])
            self.assertEqual(read_row(str(label)), label)
            self.assertEqual(read_lines(lines_of(label)), label)


class LaterChanges(unittest.TestCase):
    def test_what_is_handed_in_stays_as_it_was(self):
        names, words = ["choc", "bean"], ["nut", "egg"]
        label = label_of(CAKE, names, 3, words)
        self.assertEqual((names, words), (["choc", "bean"], ["nut", "egg"]))
        row = str(label)
        names.append("dough")
        words.clear()
        self.assertEqual(str(label), row)
        self.assertEqual(str(label_of(CAKE)), CAKE_ROW)

    def test_told_dicts_are_the_askers_own(self):
        first, second = making_of(CAKE), making_of(CAKE)
        first[(0,)] = (0, 1)
        del first[(1,)]
        self.assertEqual(second, CAKE_MAKING)
        self.assertEqual(making_of(CAKE), CAKE_MAKING)

    def test_told_lists_of_the_flat_recipe(self):
        recipe = flat(CAKE)
        recipe.parts().clear()
        self.assertEqual(recipe, flat(CAKE))

    def test_a_list_of_parts_changed_later(self):
        parts = [SALT, WATER]
        recipe = Recipe(parts)
        parts[1] = RYE
        self.assertEqual(str(label_of(recipe)), "water, salt")
        self.assertEqual(making_of(recipe), {(0,): (6, 7), (1,): (1, 7)})


if __name__ == "__main__":
    unittest.main()
