"""What a recipe tells, and which recipes are alike [12]."""

import unittest
from fractions import Fraction

from samples import as_tuple

from stufflists.errors import NoName
from stufflists.recipes import Recipe

SALT = ("salt", (1, 2), None)
WATER = ("water", (3, 1), None)
DOUGH = ("dough", (2, 3), Recipe([("rye", (1, 1), None), ("water", (5, 1), None)], (1, 1)))


class Always:
    """Like everything, by its own word."""

    def __eq__(self, other):
        return True


class Left(unittest.TestCase):
    def test_nothing_cooked_away(self):
        recipe = Recipe([SALT, WATER, DOUGH])
        self.assertEqual(recipe.left("salt"), (1, 2))
        self.assertEqual(recipe.left("water"), (3, 1))
        self.assertEqual(recipe.left("dough"), (2, 3))
        self.assertEqual(recipe.whole(), (25, 6))
        self.assertEqual(len(recipe), 3)

    def test_some_cooked_away(self):
        recipe = Recipe([SALT, WATER, DOUGH], (7, 3))
        self.assertEqual(recipe.left("salt"), (1, 2))
        self.assertEqual(recipe.left("water"), (2, 3))
        self.assertEqual(recipe.left("dough"), (2, 3))
        self.assertEqual(recipe.whole(), (11, 6))
        self.assertEqual(len(recipe), 3)
        self.assertEqual(recipe.cooked(), (7, 3))

    def test_all_cooked_away(self):
        recipe = Recipe([SALT, WATER], (3, 1))
        self.assertEqual(recipe.left("water"), (0, 1))
        self.assertEqual(recipe.whole(), (1, 2))
        self.assertEqual(len(recipe), 2)
        self.assertEqual(recipe.parts(), [SALT, WATER])

    def test_water_that_has_something_inside(self):
        recipe = Recipe([SALT, ("water", (3, 1), Recipe([SALT]))], (0, 1))
        self.assertEqual(recipe.left("water"), (3, 1))
        self.assertEqual(recipe.whole(), (7, 2))

    def test_another_name_for_the_water(self):
        recipe = Recipe([("milk", (2, 1), None), WATER], (1, 2), "milk")
        self.assertEqual(recipe.left("milk"), (3, 2))
        self.assertEqual(recipe.left("water"), (3, 1))
        self.assertEqual(recipe.whole(), (9, 2))
        self.assertEqual(recipe.water(), "milk")

    def test_water_cooked_away_within_a_part_leaves_its_weight(self):
        self.assertEqual(Recipe([DOUGH]).whole(), (2, 3))

    def test_by_name(self):
        self.assertEqual(Recipe([SALT]).left(name="salt"), (1, 2))

    def test_no_name_of_an_own_part(self):
        recipe = Recipe([SALT, WATER, DOUGH])
        for thing in ("rye", "egg", "", "Salt", "sal", "salty", None, 0, 1, True, b"salt", ["salt"], ("salt",),
                      SALT, {}, {"salt"}, object()):
            with self.assertRaises(NoName) as caught:
                recipe.left(thing)
            self.assertEqual(caught.exception.number, -1)
        self.assertEqual(recipe, Recipe([SALT, WATER, DOUGH]))

    def test_weights_of_many_figures(self):
        one, two, away = Fraction(10 ** 19, 10 ** 19 - 1), Fraction(10 ** 19 + 1, 10 ** 18 - 1), Fraction(1, 10 ** 19 - 3)
        recipe = Recipe([("rye", as_tuple(one), None), ("water", as_tuple(two), None)], as_tuple(away))
        self.assertEqual(recipe.left("water"), as_tuple(two - away))
        self.assertEqual(recipe.whole(), as_tuple(one + two - away))


class Asked(unittest.TestCase):
    def test_parts_are_told_as_they_were(self):
        recipe = Recipe((DOUGH, SALT, WATER))
        self.assertIs(type(recipe.parts()), list)
        self.assertEqual(recipe.parts(), [DOUGH, SALT, WATER])
        self.assertEqual(recipe.parts()[0][2], DOUGH[2])
        for part in recipe.parts():
            self.assertIs(type(part), tuple)

    def test_told_lists_are_the_askers_own(self):
        recipe = Recipe([SALT, WATER])
        first, second = recipe.parts(), recipe.parts()
        first.append(DOUGH)
        del first[0]
        self.assertEqual(second, [SALT, WATER])
        self.assertEqual(recipe.parts(), [SALT, WATER])
        second.clear()
        self.assertEqual(recipe, Recipe([SALT, WATER]))
        self.assertEqual(len(recipe), 2)

    def test_parts_handed_in_again(self):
        recipe = Recipe([SALT, DOUGH, WATER], (1, 7))
        self.assertEqual(Recipe(recipe.parts(), recipe.cooked(), recipe.water()), recipe)

    def test_length_counts_own_parts_alone(self):
        self.assertEqual(len(Recipe([DOUGH])), 1)
        self.assertEqual(len(Recipe([DOUGH, SALT])), 2)
        self.assertEqual(len(DOUGH[2]), 2)


class Alike(unittest.TestCase):
    def assertAlike(self, one, other):
        self.assertIs(one == other, True)
        self.assertIs(other == one, True)
        self.assertIs(one != other, False)

    def assertUnlike(self, one, other):
        self.assertIs(one == other, False)
        self.assertIs(other == one, False)
        self.assertIs(one != other, True)

    def dough(self, *made_of):
        return ("dough", (2, 3), Recipe(*made_of))

    def test_the_same_made_twice(self):
        rye = ("rye", (1, 1), None)
        self.assertAlike(Recipe([SALT, self.dough([rye])], None), Recipe((SALT, self.dough((rye,)))))
        self.assertAlike(Recipe([SALT, WATER], (1, 2)), Recipe([SALT, WATER], (1, 2), "water"))

    def test_nothing_cooked_away_is_nothing(self):
        self.assertAlike(Recipe([SALT, WATER]), Recipe([SALT, WATER], (0, 1)))

    def test_one_thing_different(self):
        rye = ("rye", (1, 1), None)
        first = Recipe([SALT, WATER, self.dough([rye, WATER])], (1, 2))
        others = (
            Recipe([("salt", (1, 3), None), WATER, self.dough([rye, WATER])], (1, 2)),
            Recipe([WATER, SALT, self.dough([rye, WATER])], (1, 2)),
            Recipe([("oil", (1, 2), None), WATER, self.dough([rye, WATER])], (1, 2)),
            Recipe([SALT, WATER, self.dough([rye, WATER])], (1, 3)),
            Recipe([SALT, WATER, self.dough([rye, WATER])]),
            Recipe([SALT, WATER, self.dough([rye, WATER])], (1, 2), "salt"),
            Recipe([SALT, WATER, self.dough([rye])], (1, 2)),
            Recipe([SALT, WATER, self.dough([WATER, rye])], (1, 2)),
            Recipe([SALT, WATER, self.dough([rye, WATER], (1, 2))], (1, 2)),
            Recipe([SALT, WATER, self.dough([rye, WATER], None, "rye")], (1, 2)),
            Recipe([SALT, WATER, ("dough", (2, 3), None)], (1, 2)),
            Recipe([SALT, WATER, ("paste", (2, 3), Recipe([rye, WATER]))], (1, 2)),
            Recipe([SALT, WATER], (1, 2)),
            Recipe([SALT, WATER, self.dough([rye, WATER]), rye], (1, 2)),
        )
        self.assertAlike(first, Recipe([SALT, WATER, self.dough([rye, WATER])], (1, 2)))
        for other in others:
            self.assertUnlike(first, other)

    def test_the_waters_name_alone(self):
        self.assertUnlike(Recipe([SALT]), Recipe([SALT], None, "milk"))

    def test_weights_to_one_another_alike_are_not_the_same(self):
        self.assertUnlike(Recipe([SALT, WATER]), Recipe([("salt", (1, 1), None), ("water", (6, 1), None)]))

    def test_like_nothing_else(self):
        recipe = Recipe([SALT, WATER])
        for thing in (None, 0, 2, True, [SALT, WATER], (SALT, WATER), recipe.parts(), {}, "salt", object(), Recipe):
            self.assertUnlike(recipe, thing)
        self.assertIs(recipe == Always(), False)


if __name__ == "__main__":
    unittest.main()
