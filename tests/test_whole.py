"""The whole promise: from a recipe to its list, its texts and back, and to what can be read of it [1, 4]."""

import unittest
from fractions import Fraction
from random import Random

from judging import Judging, counting, is_made, places_by_path, sharing, showing
from samples import LETTERS, as_tuple, drawn_recipe, shaken_label

from stufflists.clashes import clash
from stufflists.errors import Never, NoClash
from stufflists.harms import harm
from stufflists.house import House
from stufflists.labels import retold
from stufflists.linetexts import lines_of, read_lines
from stufflists.listing import flat, label_of, making_of
from stufflists.makings import mixed
from stufflists.pairs import one_making, stuffs_of
from stufflists.rowtexts import read_row
from stufflists.spreads import share_of, spread
from stufflists.tells import fewest

NAMES = list(LETTERS[:6]) + ["water"]


class FromARecipe(Judging):
    def read_again(self, seed):
        """A recipe, and its label as it is read of its row and of its lines."""
        rng = Random(seed)
        recipe = drawn_recipe(seed)
        label = label_of(recipe, rng.sample(NAMES, rng.randint(0, 4)), rng.choice((0, 2, 10, 100)), ["nut"])
        row, lines = read_row(str(label)), read_lines(lines_of(label))
        self.assertEqual((row, lines), (label, label))
        return recipe, row

    def test_stuffs_fall_and_come_to_the_whole(self):
        for seed in range(60):
            recipe, label = self.read_again(seed)
            own = making_of(recipe)
            self.assertMaking(label, own)
            self.assertEqual(sum(Fraction(*share) for path, share in own.items() if len(path) == 1), 1)

    def test_the_own_share_lies_in_the_spread(self):
        for seed in range(60):
            recipe, label = self.read_again(seed)
            own = making_of(recipe)
            for name in stuffs_of(label):
                low, high, makings, papers = spread(label, [name])
                self.assertTrue(Fraction(*low) <= sharing(label, [name], own) <= Fraction(*high))
                self.assertEqual((share_of(label, [name], makings[0]), share_of(label, [name], makings[1])), (low, high))
                prices = {path: (1, 1) for path in counting(label, [name])}
                self.assertEqual(showing(label, prices, papers[0]), Fraction(*low))

    def test_all_between_the_ends_can_be(self):
        for seed in range(40):
            _, label = self.read_again(seed)
            for name in stuffs_of(label):
                low, high, makings, _ = spread(label, [name])
                for part in ((0, 1), (1, 3), (1, 1)):
                    between = mixed(makings[0], makings[1], part)
                    self.assertMaking(label, between)
                    share = Fraction(*part) * Fraction(*low) + (1 - Fraction(*part)) * Fraction(*high)
                    self.assertEqual(sharing(label, [name], between), share)

    def test_no_clash_and_one_making_with_the_flat_list(self):
        for seed in range(40):
            recipe, label = self.read_again(seed)
            with self.assertRaises(NoClash):
                clash(label)
            self.assertEqual(one_making(label, label_of(flat(recipe)))[0], "one")

    def test_harm_by_the_own_making(self):
        """No list is told to be without what its own making has too much of, and none to be with it that has less."""
        for seed in range(60):
            recipe, label = self.read_again(seed)
            share = sharing(label, ["a", "water"], making_of(recipe))
            for limit in (Fraction(0), Fraction(1, 10), Fraction(1, 2), share):
                word = harm(label, ["a", "water"], None, as_tuple(limit))[0]
                self.assertIn(word, ("in", "may") if share > limit else ("may", "not"))

    def test_a_doubt_settled_by_the_own_shares(self):
        for seed in range(60):
            recipe, label = self.read_again(seed)
            if len(label) <= 6:
                own = making_of(recipe)
                for word, end in (("most", 1), ("least", 0)):
                    share = share_of(label, ["a"], own)
                    paths = fewest(label, own, (word, ["a"], share))[0]
                    told = {path: place[1] for path, place in places_by_path(label).items() if place[1] is not None}
                    told.update({path: (own[path], own[path]) for path in paths})
                    self.assertEqual(spread(retold(label, told), ["a"])[end], share)

    def test_two_lists_are_alike_just_where_their_texts_are(self):
        labels = [self.read_again(seed)[1] for seed in range(80)]
        for one in labels:
            for other in labels:
                self.assertEqual(one == other, str(one) == str(other))
                self.assertEqual(one == other, lines_of(one) == lines_of(other))


class WithoutMakings(Judging):
    def test_shown_by_told_shares_of_which_none_can_be_spared(self):
        many = 0
        for seed in range(80):
            label = shaken_label(Random(seed))
            try:
                spread(label, [])
            except Never as never:
                many += 1
                self.assertShowsNever(label, never.paper)
                paths, paper, makings = clash(label)
                self.assertShowsNever(label, paper)
                for path, making in makings.items():
                    others = {other: label.told_at(other) for other in paths if other != path}
                    self.assertTrue(is_made(retold(label, others), making))
                self.assertEqual(one_making(label, label)[0], "never")
        self.assertGreater(many, 20)


class InAHouse(Judging):
    def test_from_a_house_to_its_lists_and_what_is_read_of_them(self):
        house = House()
        house.put("dough", [("rye", (4, 1)), ("water", (3, 1)), ("salt", (1, 10))], (2, 1), None, 0, ["milk"])
        house.put("choc", [("sugar", (3, 1)), ("cocoa", (2, 1))], None, ["cocoa"], 10, ["nut"])
        self.assertEqual(house.put("cake", [("dough", (5, 1)), ("choc", (2, 1))], None, ["choc"], 4), ["cake"])
        label = read_row(str(house.label("cake")))
        self.assertEqual(str(label), "dough (rye, water, salt), choc 1/4 to 1/2 (sugar, cocoa); may hold milk, nut")
        own = making_of(house.recipe("cake"))
        for name in NAMES + ["rye", "salt", "sugar", "cocoa", "dough", "choc"]:
            low, high = spread(label, [name])[:2]
            self.assertTrue(Fraction(*low) <= sharing(label, [name], own) <= Fraction(*high))
        self.assertEqual(spread(label, ["cocoa"])[:2], ((0, 1), (1, 4)))
        self.assertEqual(harm(label, ["nuts"], {"nut": ["nuts"]}), ("may", "nut"))
        self.assertEqual(one_making(label, label_of(flat(house.recipe("cake")), ["rye"], 10))[0], "one")


if __name__ == "__main__":
    unittest.main()
