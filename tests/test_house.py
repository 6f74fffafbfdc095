"""A house: wares within wares, their recipes and labels, and which labels change [23, 24]."""

import unittest
from random import Random

from judging import NO_NAMES, Judging
from samples import LETTERS, labels_of, weighed

from stufflists.errors import HouseError, NoDepth, NoName, NoWare, Ring, TooMany
from stufflists.house import House
from stufflists.labels import Label
from stufflists.listing import label_of, making_of
from stufflists.recipes import Recipe


def bakery():
    house = House()
    house.put("choc", weighed("cocoa 1 sugar 2"), None, ["cocoa"], 0, ["nut"])
    house.put("dough", weighed("rye 4 water 3 salt 1"), (2, 1), None, 0, ["milk", "egg"])
    house.put("cake", weighed("dough 5 choc 3 water 4 sugar 1"), (3, 1), ["sugar", "choc"], 10, ["soy", "rye"])
    house.put("box", weighed("cake 1 nut 1"), None, None, 0, ["cocoa", "zinc"])
    return house


class Houses(Judging):
    def assertRow(self, house, name, row):
        self.assertIsInstance(house.label(name), Label)
        self.assertEqual(str(house.label(name)), row)


class Kept(Houses):
    def test_an_empty_one(self):
        house = House()
        self.assertEqual((len(house), house.wares(), house.uses("rye")), (0, [], []))

    def test_one_ware(self):
        house = House()
        self.assertEqual(house.put("bread", weighed("water 3 rye 4")), ["bread"])
        self.assertEqual((len(house), house.wares()), (1, ["bread"]))
        self.assertEqual(house.recipe("bread"), Recipe([("water", (3, 1), None), ("rye", (4, 1), None)]))
        self.assertRow(house, "bread", "rye, water")

    def test_wares_within_wares(self):
        house = bakery()
        self.assertEqual((len(house), house.wares()), (4, ["box", "cake", "choc", "dough"]))
        choc = Recipe([("cocoa", (1, 1), None), ("sugar", (2, 1), None)])
        dough = Recipe([("rye", (4, 1), None), ("water", (3, 1), None), ("salt", (1, 1), None)], (2, 1))
        cake = Recipe([("dough", (5, 1), dough), ("choc", (3, 1), choc), ("water", (4, 1), None),
                       ("sugar", (1, 1), None)], (3, 1))
        self.assertEqual(house.recipe("choc"), choc)
        self.assertEqual(house.recipe("dough"), dough)
        self.assertEqual(house.recipe("cake"), cake)
        self.assertEqual(house.recipe("box"), Recipe([("cake", (1, 1), cake), ("nut", (1, 1), None)]))

    def test_labels(self):
        house = bakery()
        self.assertRow(house, "choc", "sugar, cocoa 1/3; may hold nut")
        self.assertRow(house, "dough", "rye, salt, water; may hold egg, milk")
        self.assertRow(house, "cake", "dough (rye, salt, water), choc 3/10 to 2/5 (sugar 1/5 to 3/10, cocoa), "
                       "sugar 1/10 to 1/5, water; may hold egg, milk, nut, soy")
        self.assertRow(house, "box", "cake (dough (rye, salt, water), choc (sugar, cocoa), sugar, water), nut; "
                       "may hold egg, milk, soy, zinc")

    def test_told_as_each_says_itself(self):
        house = House()
        house.put("choc", weighed("cocoa 1 sugar 2"), None, ["cocoa", "sugar"])
        house.put("cake", weighed("choc 1 rye 2"), None, ["rye", "sugar"], 2)
        self.assertRow(house, "choc", "sugar 2/3, cocoa 1/3")
        self.assertRow(house, "cake", "rye 1/2 to 1, choc (sugar 0 to 1/2, cocoa)")

    def test_names_told_and_words_as_tuples_and_more_than_once(self):
        house = House()
        house.put("choc", tuple(weighed("cocoa 1 sugar 2")), None, ("cocoa", "cocoa", "soy"), 0, ("nut", "egg", "nut"))
        self.assertRow(house, "choc", "sugar, cocoa 1/3; may hold egg, nut")

    def test_all_water_cooked_away(self):
        house = House()
        house.put("syrup", weighed("sugar 3 water 2"), (2, 1), ["water", "sugar"], 0, ["water", "nut"])
        self.assertRow(house, "syrup", "sugar 1; may hold nut, water")
        house.put("drink", weighed("syrup 1 ice 1"))
        self.assertRow(house, "drink", "ice, syrup (sugar); may hold nut, water")
        house.put("drink", weighed("syrup 1 water 1"))
        self.assertRow(house, "drink", "syrup (sugar), water; may hold nut")

    def test_words_that_are_names_of_places(self):
        house = House()
        house.put("choc", weighed("cocoa 1 sugar 2"), None, None, 0, ["sugar", "cake", "choc", "rye", "egg"])
        self.assertRow(house, "choc", "sugar, cocoa; may hold cake, choc, egg, rye")
        house.put("cake", weighed("choc 1 rye 2"), None, None, 0, ["cocoa", "soy", "cake"])
        self.assertRow(house, "cake", "rye, choc (sugar, cocoa); may hold cake, egg, soy")

    def test_words_through_several_wares(self):
        house = House()
        for name, part in (("a", "x"), ("b", "a"), ("c", "b"), ("d", "c")):
            house.put(name, [(part, (1, 1)), ("salt", (1, 1))], None, None, 0, [name + name])
        self.assertEqual(house.label("d").may(), ["aa", "bb", "cc", "dd"])
        self.assertEqual(house.label("b").may(), ["aa", "bb"])

    def test_a_ware_four_deep(self):
        house = House()
        for name, part in (("d", "e"), ("c", "d"), ("b", "c"), ("a", "b")):
            house.put(name, [(part, (1, 1))])
        self.assertRow(house, "a", "b (c (d (e)))")

    def test_arguments_by_their_names(self):
        house = House()
        self.assertEqual(house.put(may=["nut"], near=4, tell=["rye"], cooked=(1, 1), parts=weighed("rye 3 water 2"),
                                   name="bread"), ["bread"])
        self.assertRow(house, "bread", "rye 3/4 to 1, water; may hold nut")
        self.assertEqual(house.uses(name="rye"), ["bread"])
        self.assertEqual(house.recipe(name="bread").cooked(), (1, 1))
        self.assertEqual(len(house.label(name="bread")), 2)
        self.assertEqual(house.drop(name="bread"), [])


class Changes(Houses):
    def test_a_new_ware(self):
        house = House()
        self.assertEqual(house.put("cake", weighed("choc 1 rye 2")), ["cake"])
        self.assertEqual(house.put("salted", weighed("salt 1")), ["salted"])
        self.assertEqual(house.put("choc", weighed("cocoa 1")), ["cake", "choc"])
        self.assertRow(house, "cake", "rye, choc (cocoa)")

    def test_put_again_with_the_same(self):
        house = bakery()
        before = labels_of(house)
        self.assertEqual(house.put("choc", weighed("cocoa 1 sugar 2"), None, ["cocoa"], 0, ["nut"]), [])
        self.assertEqual(house.put("choc", weighed("sugar 2 cocoa 1"), (0, 1), ("cocoa", "egg"), 0, ["nut", "nut"]), [])
        self.assertEqual(labels_of(house), before)
        self.assertEqual(len(house), 4)
        self.assertEqual(house.recipe("choc").parts(), [("sugar", (2, 1), None), ("cocoa", (1, 1), None)])

    def test_put_again_with_all_weights_twice_as_great(self):
        house = bakery()
        before = labels_of(house)
        self.assertEqual(house.put("choc", weighed("cocoa 2 sugar 4"), None, ["cocoa"], 0, ["nut"]), [])
        self.assertEqual(house.put("dough", weighed("rye 8 water 6 salt 2"), (4, 1), None, 0, ["milk", "egg"]), [])
        self.assertEqual(labels_of(house), before)
        self.assertEqual(house.recipe("choc").whole(), (6, 1))
        self.assertEqual(house.recipe("cake").parts()[1][2].whole(), (6, 1))

    def test_put_again_with_other_words_alone(self):
        house = bakery()
        self.assertEqual(house.put("choc", weighed("cocoa 1 sugar 2"), None, ["cocoa"], 0, ["soy"]), ["cake", "choc"])
        self.assertEqual(house.label("cake").may(), ["egg", "milk", "soy"])
        self.assertEqual(house.put("choc", weighed("cocoa 1 sugar 2"), None, ["cocoa"], 0, ["egg"]), ["choc"])
        self.assertEqual(house.put("choc", weighed("cocoa 1 sugar 2"), None, ["cocoa"], 0, ["rye"]), ["choc"])
        self.assertEqual(house.put("choc", weighed("cocoa 1 sugar 2"), None, ["cocoa"]), ["choc"])

    def test_put_again_with_other_names_told_alone(self):
        house = bakery()
        self.assertEqual(house.put("choc", weighed("cocoa 1 sugar 2"), None, ["sugar"], 0, ["nut"]), ["choc"])
        self.assertEqual(house.put("choc", weighed("cocoa 1 sugar 2"), None, ["sugar"], 3, ["nut"]), ["choc"])

    def test_other_weights(self):
        house = bakery()
        self.assertEqual(house.put("choc", weighed("cocoa 2 sugar 1"), None, None, 0, ["nut"]), ["box", "cake", "choc"])
        # In the same order the shares are told by the cake alone.
        self.assertEqual(house.put("choc", weighed("cocoa 20 sugar 1"), None, None, 0, ["nut"]), ["cake"])

    def test_other_water_cooked_away(self):
        house = bakery()
        self.assertEqual(house.put("dough", weighed("rye 4 water 3 salt 1"), (3, 1), None, 0, ["milk", "egg"]),
                         ["box", "cake", "dough"])
        self.assertRow(house, "dough", "rye, salt; may hold egg, milk")

    def test_dropped_it_is_gone(self):
        house = bakery()
        self.assertEqual(house.drop("box"), [])
        self.assertEqual((house.wares(), len(house)), (["cake", "choc", "dough"], 3))
        with self.assertRaises(NoWare):
            house.label("box")

    def test_a_dropped_part_is_a_plain_stuff(self):
        house = bakery()
        before = labels_of(house)
        self.assertEqual(house.drop("choc"), ["box", "cake"])
        self.assertRow(house, "cake", "dough (rye, salt, water), choc 3/10 to 2/5, sugar 1/10 to 1/5, water; "
                       "may hold egg, milk, soy")
        self.assertEqual(house.recipe("cake").parts()[1], ("choc", (3, 1), None))
        self.assertEqual(house.uses("cocoa"), [])
        self.assertEqual(house.uses("choc"), ["box", "cake"])
        self.assertEqual(house.put("choc", weighed("cocoa 1 sugar 2"), None, ["cocoa"], 0, ["nut"]),
                         ["box", "cake", "choc"])
        self.assertEqual(labels_of(house), before)

    def test_a_ware_dropped_and_another_put_by_its_name(self):
        house = bakery()
        house.drop("choc")
        self.assertEqual(house.put("choc", weighed("cocoa 1")), ["box", "cake", "choc"])

    def test_a_ware_that_no_label_shows(self):
        house = House()
        house.put("cake", weighed("rye 1 salt 1"))
        self.assertEqual(house.put("choc", weighed("cocoa 1 cake 2")), ["choc"])
        self.assertEqual(house.drop("choc"), [])

    def test_told_lists_against_all_labels_ahead_and_behind(self):
        kinds = {"empty": 0, "some": 0, "refused": 0}
        for seed in range(25):
            rng = Random(seed)
            house = House()
            for _ in range(25):
                before = labels_of(house)
                try:
                    told = self.drawn_deed(rng, house)
                except (Ring, NoDepth, TooMany):
                    kinds["refused"] += 1
                    self.assertEqual(labels_of(house), before)
                    continue
                behind = labels_of(house)
                self.assertEqual(told, sorted(name for name in behind if behind[name] != before.get(name)))
                kinds["some" if told else "empty"] += 1
                self.assertConsistent(house)
        self.assertGreater(min(kinds.values()), 40)

    def drawn_deed(self, rng, house):
        name = rng.choice("abcdef")
        if name in house.wares() and rng.random() < 0.3:
            return house.drop(name)
        parts = [(part, (rng.randint(1, 3), 1)) for part in rng.sample("abcdefxyz", rng.randint(1, 3))]
        parts += [("water", (2, 1))] if rng.random() < 0.3 else []
        cooked = (1, 1) if ("water", (2, 1)) in parts and rng.random() < 0.5 else None
        tell, may = rng.sample("abxy", rng.choice((0, 1))), rng.sample("axmn", rng.choice((0, 1)))
        return house.put(name, parts, cooked, tell, rng.choice((0, 0, 2)), may)

    def assertConsistent(self, house):
        for name in house.wares():
            recipe, label = house.recipe(name), house.label(name)
            self.assertEqual([label.name_at(path) for path in label.paths()],
                             [label_of(recipe).name_at(path) for path in label_of(recipe).paths()])
            self.assertMaking(label, making_of(recipe))
            for part, _, inside in recipe.parts():
                self.assertEqual(inside, house.recipe(part) if part in house.wares() else None)


class Uses(Houses):
    def test_of_wares_stuffs_and_water(self):
        house = bakery()
        for name, wares in (("choc", ["box", "cake"]), ("cake", ["box"]), ("box", []), ("cocoa", ["box", "cake", "choc"]),
                            ("rye", ["box", "cake", "dough"]), ("sugar", ["box", "cake", "choc"]), ("nut", ["box"]),
                            ("water", ["box", "cake", "dough"]), ("zinc", []), ("soy", []), ("nowhere", [])):
            self.assertEqual(house.uses(name), wares, name)

    def test_where_nothing_is_left(self):
        house = House()
        house.put("syrup", weighed("sugar 3 water 2"), (2, 1))
        house.put("drink", weighed("syrup 1 ice 1"))
        self.assertEqual(house.uses("water"), ["drink", "syrup"])

    def test_no_name(self):
        house = bakery()
        for thing in NO_NAMES:
            with self.assertRaises(NoName) as caught:
                house.uses(thing)
            self.assertEqual(caught.exception.number, -1)


class NoWares(Houses):
    def test_of_anything(self):
        house = bakery()
        for thing in NO_NAMES + ("rye", "water", "egg", "nowhere", 1.5, {"cake": 1}, ["cake"], ("cake",)):
            for ask in (house.drop, house.recipe, house.label):
                with self.assertRaises(NoWare) as caught:
                    ask(thing)
                self.assertEqual(caught.exception.name, thing)
                self.assertIsInstance(caught.exception, HouseError)
        self.assertEqual(labels_of(house), labels_of(bakery()))

    def test_of_an_empty_house(self):
        for ask in (House().drop, House().recipe, House().label):
            with self.assertRaises(NoWare):
                ask("cake")


class LaterChanges(Houses):
    def test_what_is_handed_in_stays_as_it_was(self):
        parts, tell, may = weighed("rye 2 water 3"), ["rye"], ["nut", "egg"]
        house = House()
        house.put("bread", parts, (1, 1), tell, 0, may)
        self.assertEqual((parts, tell, may), (weighed("rye 2 water 3"), ["rye"], ["nut", "egg"]))
        row = str(house.label("bread"))
        parts.clear()
        tell.append("water")
        may[0] = "soy"
        self.assertRow(house, "bread", row)
        self.assertEqual(house.uses("rye"), ["bread"])
        house.put("rye", weighed("corn 1"))
        house.drop("rye")
        self.assertRow(house, "bread", row)

    def test_told_lists_are_the_askers_own(self):
        house = bakery()
        for ask in (house.wares, lambda: house.uses("rye")):
            self.assertOwn(ask)
        house.drop("choc").clear()
        told = house.put("choc", weighed("cocoa 1"))
        told.append("rye")
        self.assertEqual(house.wares(), ["box", "cake", "choc", "dough"])
        self.assertEqual(house.put("choc", weighed("cocoa 2")), [])
        house.recipe("cake").parts().clear()
        house.label("cake").may().clear()
        self.assertEqual(len(house.recipe("cake")), 4)
        self.assertEqual(len(house.label("cake").may()), 3)

    def test_recipes_and_labels_told_ahead_of_a_change(self):
        house = bakery()
        recipe, label = house.recipe("cake"), house.label("cake")
        row, parts = str(label), recipe.parts()
        house.put("choc", weighed("cocoa 5 milk 1"))
        house.put("cake", weighed("rye 1"))
        self.assertEqual((str(label), recipe.parts()), (row, parts))
        house.drop("choc")
        house.drop("cake")
        self.assertEqual((str(label), recipe.parts()), (row, parts))
        self.assertEqual(recipe, bakery().recipe("cake"))

    def test_two_houses(self):
        one, other = bakery(), House()
        self.assertEqual(len(other), 0)
        other.put("cake", weighed("choc 1"))
        self.assertRow(other, "cake", "choc")
        one.drop("cake")
        self.assertRow(other, "cake", "choc")
        self.assertEqual(one.wares(), ["box", "choc", "dough"])

    def test_the_same_house_made_in_another_order(self):
        one, other = House(), House()
        rows = (("choc", "cocoa 1 sugar 2"), ("dough", "rye 4 salt 1"), ("cake", "dough 5 choc 3"), ("box", "cake 1"))
        for name, parts in rows:
            one.put(name, weighed(parts), None, ["rye"], 0, [name + "x"])
        for name, parts in reversed(rows):
            other.put(name, weighed(parts), None, ["rye"], 0, [name + "x"])
        self.assertEqual(labels_of(one), labels_of(other))
        self.assertEqual([one.uses(name) for name in LETTERS], [other.uses(name) for name in LETTERS])


if __name__ == "__main__":
    unittest.main()
