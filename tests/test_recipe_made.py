"""How a recipe is made, and its refusals [11]."""

import unittest

from samples import LETTERS

from stufflists import errors
from stufflists.labels import Label
from stufflists.recipes import Recipe

SALT = ("salt", (1, 2), None)
WATER = ("water", (3, 1), None)

# Each way in which a thing by itself is no PART.
WRONG_PARTS = (
    None, 1, True, "abc", b"abc", object(), (), ("egg",), ("egg", (1, 1)), ("egg", (1, 1), None, None),
    ["egg", (1, 1), None], {"egg": 1, "b": 2, "c": 3},
    ("", (1, 1), None), ("Egg", (1, 1), None), ("abcdefghi", (1, 1), None), (None, (1, 1), None), (1, (1, 1), None),
    (["egg"], (1, 1), None), (b"egg", (1, 1), None), (("egg",), (1, 1), None),
    ("egg", (0, 1), None), ("egg", (-1, 2), None), ("egg", (2, 4), None), ("egg", (1, 0), None), ("egg", (1, -2), None),
    ("egg", 1, None), ("egg", None, None), ("egg", "1", None), ("egg", [1, 2], None), ("egg", (True, 1), None),
    ("egg", (1, True), None), ("egg", (1,), None), ("egg", True, None), ("egg", (1, 2, 3), None),
    ("egg", (1, 1), 0), ("egg", (1, 1), False), ("egg", (1, 1), ()), ("egg", (1, 1), []), ("egg", (1, 1), "yolk"),
    ("egg", (1, 1), [SALT]), ("egg", (1, 1), (SALT,)), ("egg", (1, 1), Recipe), ("egg", (1, 1), {}),
    ("egg", (1, 1), Label((("yolk", None, None),))),
)


def parts(*names):
    return [(name, (1, 1), None) for name in names]


def chain(*names):
    """A recipe of one part that has a recipe of one part inside, and so on."""
    inside = None
    for name in reversed(names):
        inside = Recipe([(name, (1, 1), inside)])
    return inside


class Refused(unittest.TestCase):
    def assertNoPart(self, number, *made_of):
        with self.assertRaises(errors.NoPart) as caught:
            Recipe(*made_of)
        self.assertEqual(caught.exception.number, number)

    def assertNoName(self, *made_of):
        with self.assertRaises(errors.NoName) as caught:
            Recipe(*made_of)
        self.assertEqual(caught.exception.number, -1)

    def assertRefused(self, error, *made_of):
        with self.assertRaises(error) as caught:
            Recipe(*made_of)
        self.assertIs(type(caught.exception), error)


class Parts(Refused):
    def test_a_list_and_a_tuple(self):
        for made_of in ([SALT, WATER], (SALT, WATER)):
            self.assertEqual(Recipe(made_of).parts(), [SALT, WATER])

    def test_by_names(self):
        recipe = Recipe(water="salt", cooked=(1, 4), parts=[SALT, WATER])
        self.assertEqual((recipe.parts(), recipe.cooked(), recipe.water()), ([SALT, WATER], (1, 4), "salt"))

    def test_no_list_or_none_in_it(self):
        for thing in (None, [], (), "salt", "", 0, 1, True, {}, {"salt": 1}, {SALT: 1}, {SALT}, b"salt", object(),
                      Recipe([SALT])):
            self.assertNoPart(-1, thing)

    def test_a_first_part_that_is_none(self):
        for thing in WRONG_PARTS:
            with self.subTest(thing=thing):
                self.assertNoPart(0, [thing])
                self.assertNoPart(0, (thing, SALT, thing))

    def test_a_later_part_that_is_none(self):
        for thing in WRONG_PARTS:
            with self.subTest(thing=thing):
                self.assertNoPart(1, [SALT, thing])
                self.assertNoPart(2, [SALT, WATER, thing, thing, ("rye", (1, 1), None)])

    def test_a_list_of_a_part_alone(self):
        self.assertNoPart(0, SALT)

    def test_an_earlier_ones_name(self):
        self.assertNoPart(1, [SALT, SALT])
        self.assertNoPart(1, [SALT, ("salt", (3, 4), Recipe([WATER]))])
        self.assertNoPart(2, [SALT, WATER, ("salt", (3, 4), None), SALT])
        self.assertNoPart(3, parts("a", "b", "c", "b", "a"))

    def test_its_own_name_within(self):
        self.assertNoPart(0, [("salt", (1, 1), Recipe([SALT]))])
        self.assertNoPart(1, [WATER, ("salt", (1, 1), Recipe([WATER, SALT]))])
        self.assertNoPart(0, [("salt", (1, 1), chain("a", "salt"))])
        self.assertNoPart(0, [("salt", (1, 1), chain("a", "b", "salt"))])
        self.assertNoPart(0, [("salt", (1, 1), chain("a", "salt", "b"))])
        self.assertNoPart(2, parts("a", "b") + [("c", (1, 1), chain("a", "c", "b")), None])

    def test_its_own_name_within_where_nothing_is_left_of_it(self):
        inside = Recipe([SALT, WATER], (3, 1))
        self.assertNoPart(0, [("water", (1, 1), inside)])

    def test_the_same_names_elsewhere(self):
        dough = ("dough", (1, 1), Recipe([SALT, WATER]))
        paste = ("paste", (1, 1), Recipe([SALT, WATER, ("dough", (1, 2), None)]))
        self.assertEqual(len(Recipe([dough, paste, SALT, WATER])), 4)


class Depth(Refused):
    def test_four_deep(self):
        self.assertEqual(len(chain("a", "b", "c", "d")), 1)
        self.assertEqual(len(Recipe([SALT, ("a", (1, 1), chain("b", "c", "d"))])), 2)

    def test_five_deep(self):
        self.assertRefused(errors.NoDepth, [("a", (1, 1), chain("b", "c", "d", "e"))])
        self.assertRefused(errors.NoDepth, [SALT, WATER, ("a", (1, 1), chain("b", "c", "d", "e"))])
        self.assertRefused(errors.NoDepth, [("a", (1, 1), chain("b", "c", "d", "e")), SALT])


class Counted(Refused):
    def test_twelve_parts(self):
        self.assertEqual(len(Recipe(parts(*LETTERS[:12]))), 12)
        inside = Recipe(parts(*LETTERS[:5]))
        self.assertEqual(len(Recipe([("y", (1, 1), inside), ("z", (1, 1), inside)])), 2)
        self.assertEqual(len(Recipe([("z", (1, 1), Recipe(parts(*LETTERS[:11])))])), 1)

    def test_thirteen_parts(self):
        self.assertRefused(errors.TooMany, parts(*LETTERS[:13]))
        self.assertRefused(errors.TooMany, parts(*LETTERS))
        five, six = Recipe(parts(*LETTERS[:5])), Recipe(parts(*LETTERS[:6]))
        self.assertRefused(errors.TooMany, [("y", (1, 1), five), ("z", (1, 1), six)])
        self.assertRefused(errors.TooMany, [("z", (1, 1), Recipe(parts(*LETTERS[:12])))])

    def test_parts_of_which_nothing_is_left_count(self):
        made_of = parts(*LETTERS[:12]) + [WATER]
        self.assertRefused(errors.TooMany, made_of, (3, 1))


class Water(Refused):
    def test_names(self):
        for name in ("water", "salt", "milk", "a", "abcdefgh"):
            self.assertEqual(Recipe([SALT, WATER], None, name).water(), name)
        self.assertEqual(Recipe([SALT]).water(), "water")

    def test_no_names(self):
        for thing in (None, "", "Water", "abcdefghi", 0, 1, True, b"water", ["water"], ("water",), {}, object()):
            self.assertNoName([SALT, WATER], None, thing)


class Cooked(Refused):
    def test_none_and_fractions(self):
        self.assertEqual(Recipe([SALT, WATER]).cooked(), (0, 1))
        self.assertEqual(Recipe([SALT, WATER], None).cooked(), (0, 1))
        for cooked in ((0, 1), (1, 3), (1, 1), (299, 100)):
            self.assertEqual(Recipe([SALT, WATER], cooked).cooked(), cooked)

    def test_no_fraction_from_nought_on(self):
        for thing in (0, 1, True, False, (), (1,), (1, 2, 3), (2, 4), (1, 0), (1, -2), (-1, 2), (-1, 1), [1, 2], "1",
                      "", {}, (True, 1), (0, 2), (0, True), object(), ((1, 2), (1, 2))):
            with self.subTest(thing=thing):
                self.assertRefused(errors.NoCooked, [SALT, WATER], thing)

    def test_just_all_water(self):
        recipe = Recipe([SALT, WATER], (3, 1))
        self.assertEqual(recipe.left("water"), (0, 1))

    def test_more_than_the_water(self):
        self.assertRefused(errors.NoCooked, [SALT, WATER], (301, 100))
        self.assertRefused(errors.NoCooked, [SALT, WATER], (4, 1))
        self.assertRefused(errors.NoCooked, [WATER, SALT], (3 * 10 ** 18 + 1, 10 ** 18))

    def test_no_water(self):
        self.assertEqual(Recipe([SALT], (0, 1)).cooked(), (0, 1))
        self.assertRefused(errors.NoCooked, [SALT], (1, 100))
        self.assertRefused(errors.NoCooked, [SALT, WATER], (1, 100), "milk")

    def test_water_of_another_name(self):
        self.assertEqual(Recipe([SALT, WATER], (1, 2), "salt").left("salt"), (0, 1))
        self.assertRefused(errors.NoCooked, [SALT, WATER], (1, 1), "salt")

    def test_water_that_has_something_inside(self):
        wet = ("water", (3, 1), Recipe([SALT]))
        self.assertEqual(Recipe([SALT, wet], (0, 1)).left("water"), (3, 1))
        self.assertRefused(errors.NoCooked, [SALT, wet], (1, 100))

    def test_water_within_a_part_is_no_own_part(self):
        dough = ("dough", (1, 1), Recipe([SALT, WATER]))
        self.assertRefused(errors.NoCooked, [SALT, dough], (1, 100))

    def test_nothing_left_of_all_parts(self):
        self.assertRefused(errors.NoCooked, [WATER], (3, 1))
        self.assertRefused(errors.NoCooked, [SALT], (1, 2), "salt")
        self.assertEqual(Recipe([WATER], (299, 100)).whole(), (1, 100))


class SeveralAtOnce(Refused):
    def test_no_part_first(self):
        deep = ("a", (1, 1), chain("b", "c", "d", "e"))
        self.assertNoPart(1, [deep, None], "x", "WATER")
        self.assertNoPart(13, parts(*LETTERS[:13]) + [None], "x", "WATER")
        self.assertNoPart(-1, [], "x", "WATER")
        self.assertNoPart(1, [SALT, SALT], (9, 1))
        self.assertNoPart(0, [("e", (1, 1), chain("b", "c", "d", "e"))], 7, 7)

    def test_no_depth_then(self):
        deep = ("a", (1, 1), chain("b", "c", "d", "e"))
        self.assertRefused(errors.NoDepth, [deep] + parts(*LETTERS[5:20]), "x", "WATER")
        self.assertRefused(errors.NoDepth, [deep], (9, 1))
        self.assertRefused(errors.NoDepth, [deep], None, 7)

    def test_too_many_then(self):
        self.assertRefused(errors.TooMany, parts(*LETTERS), None, "WATER")
        self.assertRefused(errors.TooMany, parts(*LETTERS), (9, 1))
        self.assertRefused(errors.TooMany, parts(*LETTERS), "x", None)

    def test_no_name_then(self):
        self.assertNoName([SALT], "x", "WATER")
        self.assertNoName([SALT, WATER], (9, 1), None)
        self.assertNoName([WATER], (3, 1), ["water"])


class LaterChanges(unittest.TestCase):
    def test_parts_changed_later_change_nothing(self):
        made_of = [SALT, WATER]
        recipe = Recipe(made_of, (1, 1))
        self.assertEqual(made_of, [SALT, WATER])
        made_of.append(("rye", (1, 1), None))
        made_of[0] = None
        self.assertEqual(recipe, Recipe([SALT, WATER], (1, 1)))
        self.assertEqual(recipe.parts(), [SALT, WATER])
        self.assertEqual(len(recipe), 2)
        self.assertEqual(recipe.whole(), (5, 2))
        self.assertEqual(recipe.left("salt"), (1, 2))

    def test_parts_are_left_as_they_were_where_refused(self):
        made_of = [SALT, WATER, SALT]
        with self.assertRaises(errors.NoPart):
            Recipe(made_of)
        self.assertEqual(made_of, [SALT, WATER, SALT])

    def test_a_refusal_of_a_recipe_changes_none_within(self):
        inside = chain("b", "c", "d", "e")
        with self.assertRaises(errors.NoDepth):
            Recipe([("a", (1, 1), inside)])
        self.assertEqual(inside, chain("b", "c", "d", "e"))


if __name__ == "__main__":
    unittest.main()
