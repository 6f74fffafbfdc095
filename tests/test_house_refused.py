"""What a house refuses to put, in which order, and that nothing is changed behind it [24]."""

import unittest

from judging import NO_LISTS, NO_NAMES
from samples import labels_of, weighed

from stufflists import errors
from stufflists.house import House

# Each way in which a thing by itself is no part.
WRONG_PARTS = (
    None, 1, True, "ab", b"ab", object(), (), ("egg",), ("egg", (1, 1), None), ["egg", (1, 1)], {"egg": 1, "b": 2},
    ("", (1, 1)), ("Egg", (1, 1)), ("abcdefghi", (1, 1)), (None, (1, 1)), (1, (1, 1)), (["egg"], (1, 1)),
    (b"egg", (1, 1)), ("egg", (0, 1)), ("egg", (-1, 2)), ("egg", (2, 4)), ("egg", (1, 0)), ("egg", (1, -2)), ("egg", 1),
    ("egg", None), ("egg", "1"), ("egg", [1, 2]), ("egg", (True, 1)), ("egg", (1, True)), ("egg", (1,)), ("egg", True),
    ("egg", (1, 2, 3)), ((1, 1), "egg"),
)
SALT = ("salt", (1, 2))
WATER = ("water", (3, 1))
GOOD = [SALT, WATER]


def stuffs(many):
    """So many parts that are plain stuffs, and no part of any other ware here."""
    return [(name, (1, 1)) for name in "fghijklmnopqr"[:many]]


class Refused(unittest.TestCase):
    def setUp(self):
        self.house = House()
        self.house.put("c", weighed("d 1 x 1"), None, ["x"], 0, ["nut"])
        self.house.put("b", weighed("c 1 y 2"))
        self.house.put("a", weighed("b 1 water 2"), (1, 1))
        self.labels, self.recipes = labels_of(self.house), self.recipes_of()

    def recipes_of(self):
        return {name: self.house.recipe(name) for name in self.house.wares()}

    def assertRefused(self, error, *asked):
        with self.assertRaises(error, msg=asked) as caught:
            self.house.put(*asked)
        self.assertIs(type(caught.exception), error)
        self.assertEqual(labels_of(self.house), self.labels)
        self.assertEqual(self.recipes_of(), self.recipes)
        self.assertEqual(len(self.house), len(self.labels))
        return caught.exception

    def assertNumber(self, error, number, *asked):
        self.assertEqual(self.assertRefused(error, *asked).number, number)


class Names(Refused):
    def test_the_ware(self):
        for thing in NO_NAMES + ("water",):
            self.assertNumber(errors.NoName, -1, thing, GOOD)

    def test_names_told(self):
        for thing in NO_NAMES:
            self.assertNumber(errors.NoName, 0, "e", GOOD, None, [thing])
            self.assertNumber(errors.NoName, 2, "e", GOOD, None, ("salt", "egg", thing, thing))
        for thing in NO_LISTS[1:]:
            self.assertNumber(errors.NoName, -1, "e", GOOD, None, thing)

    def test_words(self):
        for thing in NO_NAMES:
            self.assertNumber(errors.NoName, 0, "e", GOOD, None, None, 0, [thing])
            self.assertNumber(errors.NoName, 1, "a", GOOD, None, None, 0, ("salt", thing))
        for thing in NO_LISTS[1:]:
            self.assertNumber(errors.NoName, -1, "e", GOOD, None, None, 0, thing)

    def test_none_is_let(self):
        self.assertEqual(self.house.put("e", GOOD, None, None, 0, None), ["e"])

    def test_near(self):
        for thing in (-1, 1001, True, False, None, "1", "", (1, 1), [1], b"1", {}, object()):
            self.assertRefused(errors.NoNear, "e", GOOD, None, None, thing)
        self.house.put("e", GOOD, None, ["salt"], 1000)
        self.house.put("e", GOOD, None, ["salt"], 1)


class Parts(Refused):
    def test_no_list_or_none(self):
        for thing in NO_LISTS + ([], (), {"salt": (1, 1)}):
            self.assertNumber(errors.NoPart, -1, "e", thing)

    def test_no_part(self):
        for thing in WRONG_PARTS:
            self.assertNumber(errors.NoPart, 0, "e", [thing])
            self.assertNumber(errors.NoPart, 2, "e", [SALT, WATER, thing, thing])
            self.assertNumber(errors.NoPart, 1, "e", (SALT, thing))

    def test_an_earlier_ones_name(self):
        self.assertNumber(errors.NoPart, 1, "e", [SALT, SALT])
        self.assertNumber(errors.NoPart, 2, "e", [SALT, WATER, ("salt", (7, 1)), None])

    def test_cooked(self):
        for thing in (0, 1, True, False, (), (1,), (2, 4), (1, 0), (-1, 2), [1, 2], "1", "", {}, (True, 1), object(),
                      (301, 100), (4, 1)):
            self.assertRefused(errors.NoCooked, "e", GOOD, thing)
        self.assertRefused(errors.NoCooked, "e", [SALT], (1, 100))
        self.assertRefused(errors.NoCooked, "e", [WATER], (3, 1))
        self.assertRefused(errors.NoCooked, "e", weighed("a 1 salt 1"), (1, 2))
        self.house.put("e", GOOD, (3, 1))
        self.house.put("e", [SALT], (0, 1))


class Rings(Refused):
    def assertRing(self, names, *asked):
        caught = self.assertRefused(errors.Ring, *asked)
        self.assertIs(type(caught.names), list)
        self.assertIsInstance(caught, errors.HouseError)
        self.assertIn(caught.names, [names[at:] + names[:at] for at in range(len(names))])

    def test_of_one_ware(self):
        self.assertRing(["e"], "e", weighed("salt 1 e 1"))
        self.assertRing(["a"], "a", weighed("a 1"))

    def test_of_two(self):
        self.assertRing(["c", "b"], "c", weighed("salt 1 b 1"))
        self.assertRing(["b", "a"], "b", weighed("a 1 c 1"))

    def test_of_more(self):
        self.assertRing(["c", "a", "b"], "c", weighed("x 1 a 1"))
        self.assertRing(["d", "a", "b", "c"], "d", weighed("salt 1 a 1"))

    def test_of_a_stuff_that_becomes_a_ware(self):
        self.assertRing(["x", "c"], "x", weighed("c 1"))
        self.assertRing(["y", "b"], "y", weighed("salt 1 b 1 water 1"))

    def test_no_ring_where_several_ways_meet(self):
        self.house.put("e", weighed("b 1 c 1 salt 1"))
        self.assertEqual(self.house.uses("c"), ["a", "b", "e"])

    def test_a_ring_that_another_put_undoes(self):
        self.assertRing(["c", "b"], "c", weighed("b 1"))
        self.house.put("b", weighed("y 1"))
        self.assertEqual(self.house.put("c", weighed("b 1"), None, ["x"], 0, ["nut"]), ["c"])
        self.assertEqual(self.house.drop("a"), [])

    def test_names_of_a_refusal_are_the_askers_own(self):
        caught = self.assertRefused(errors.Ring, "d", weighed("a 1"))
        caught.names.clear()
        self.assertEqual(len(self.assertRefused(errors.Ring, "d", weighed("a 1")).names), 4)


class Sizes(Refused):
    """In a, parts stand three deep in one another: b, c, d. It has six in all: these, x, y and water."""

    def put(self, *asked):
        self.house.put(*asked)
        self.labels, self.recipes = labels_of(self.house), self.recipes_of()

    def test_too_deep(self):
        self.put("d", weighed("z 1"))
        self.assertRefused(errors.NoDepth, "e", weighed("a 1"))
        self.assertRefused(errors.NoDepth, "e", weighed("salt 1 a 1"))
        self.put("e", weighed("b 1"))

    def test_too_deep_through_another_ware(self):
        self.put("d", weighed("z 1"))
        self.assertRefused(errors.NoDepth, "z", weighed("salt 1"))
        self.put("y", weighed("salt 1"))
        self.put("y", weighed("f 1"))
        self.put("f", weighed("salt 1"))
        self.assertRefused(errors.NoDepth, "salt", weighed("g 1"))

    def test_too_deep_through_a_part_and_around(self):
        self.put("u", weighed("v 1"))
        self.put("v", weighed("w 1"))
        self.assertRefused(errors.NoDepth, "w", weighed("a 1"))
        self.assertRefused(errors.NoDepth, "d", weighed("u 1"))
        self.put("w", weighed("c 1"))

    def test_too_many(self):
        self.assertRefused(errors.TooMany, "e", stuffs(13))
        self.assertRefused(errors.TooMany, "e", weighed("a 1") + stuffs(6))
        self.put("e", weighed("a 1") + stuffs(5))
        self.assertEqual(len(self.house.label("e")), 12)
        self.put("e", stuffs(12))
        self.assertEqual(len(self.house.label("e")), 12)

    def test_too_many_through_another_ware(self):
        self.assertRefused(errors.TooMany, "y", stuffs(7))
        self.put("y", stuffs(6))
        self.assertEqual(len(self.house.label("a")), 12)
        self.assertRefused(errors.TooMany, "x", weighed("salt 1"))
        self.assertRefused(errors.TooMany, "e", weighed("a 1"))
        self.assertRefused(errors.TooMany, "f", weighed("salt 1"))

    def test_the_same_ware_twice_within_counts_twice(self):
        self.put("e", stuffs(4))
        self.put("v", weighed("e 1"))
        self.put("u", weighed("e 1 v 1"))
        self.assertRefused(errors.TooMany, "u", weighed("e 1 v 1 salt 1 water 1"))
        self.put("u", weighed("e 1 v 1 salt 1"))

    def test_parts_of_which_nothing_is_left_count(self):
        self.assertRefused(errors.TooMany, "e", stuffs(12) + [WATER], (3, 1))


class SeveralAtOnce(Refused):
    """In the order that the document tells, each ahead of all that stand behind it."""

    def test_in_their_order(self):
        many = stuffs(13)
        self.assertNumber(errors.NoName, -1, "water", [], "x", [""], -1, [""])
        self.assertNumber(errors.NoName, -1, None, None, None, 7)
        self.assertNumber(errors.NoPart, 1, "a", [("a", (1, 1)), None], "x", [""], -1, [""])
        self.assertNumber(errors.NoPart, -1, "a", (), (9, 1), 7, 7, 7)
        self.assertNumber(errors.NoPart, 13, "e", many + [None])
        self.assertRefused(errors.NoCooked, "a", weighed("a 1"), (1, 1), [""], -1, [""])
        self.assertRefused(errors.NoCooked, "e", many, "x", 7, 7, 7)
        self.assertNumber(errors.NoName, 1, "a", weighed("a 1"), None, ["b", ""], -1, [""])
        self.assertNumber(errors.NoName, -1, "e", many, None, 7, None, [""])
        self.assertRefused(errors.NoNear, "a", weighed("a 1"), None, None, 1001, [""])
        self.assertRefused(errors.NoNear, "e", many, None, ["a"], None, 7)
        self.assertNumber(errors.NoName, 1, "a", weighed("a 1"), None, None, 0, ["b", ""])
        self.assertNumber(errors.NoName, -1, "e", many, None, None, 0, 7)

    def test_ring_ahead_of_depth_and_number(self):
        self.assertRefused(errors.Ring, "d", weighed("a 1") + stuffs(13))
        self.assertRefused(errors.Ring, "x", weighed("x 1") + stuffs(13))

    def test_depth_ahead_of_number(self):
        self.house.put("d", weighed("z 1"))
        self.labels, self.recipes = labels_of(self.house), self.recipes_of()
        self.assertRefused(errors.NoDepth, "e", weighed("a 1") + stuffs(13))
        # z itself would have too many parts, and another ware, a, would be too deep.
        self.assertRefused(errors.NoDepth, "z", stuffs(13))


if __name__ == "__main__":
    unittest.main()
