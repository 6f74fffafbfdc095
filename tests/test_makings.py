"""Makings, mixed ones, and what they cost [14, 15]."""

import unittest
from collections import defaultdict
from fractions import Fraction

from samples import LETTERS, as_tuple, drawn_recipe

from stufflists.errors import NoMaking, NoPrices, StuffError
from stufflists.listing import label_of, making_of
from stufflists.makings import cost, is_making, mixed
from stufflists.rowtexts import read_row

BARE = read_row("flour, choc (sugar, cocoa), water")
TOLD = read_row("flour 2/5 to 1/2, choc 1/5 to 1/3 (sugar, cocoa 1/10 to 1), water 1/4")
DEEP = read_row("a (b (c (d, e)), f), g")
MAKING = {(0,): (9, 20), (1,): (3, 10), (1, 0): (1, 5), (1, 1): (1, 10), (2,): (1, 4)}
DEEP_MAKING = {(0,): (2, 3), (0, 0): (1, 2), (0, 0, 0): (1, 2), (0, 0, 0, 0): (1, 4), (0, 0, 0, 1): (1, 4),
               (0, 1): (1, 6), (1,): (1, 3)}

NO_FRACTIONS = (None, 0, 1, True, "1/2", (1,), (2, 4), (1, 0), (1, -2), [1, 2], (True, 1), (0, 2), (1, 2, 3), {}, (),
                object())
NO_DICTS = (None, 0, 1, True, "", "salt", (), [], [((0,), (1, 1))], (((0,), (1, 1)),), {(0,)}, b"", object(), dict)
NO_PATHS = ((), (3,), (-1,), (0, 0), (1, 2), (2, 0), (1, 0, 0), "flour", "", 0, 1, None, ("0",), ((0,),), b"0",
            frozenset(), object())


def changed(making, **shares):
    """The making with other shares at some places: at_1_0 is the one at (1, 0)."""
    made = dict(making)
    for key, share in shares.items():
        made[tuple(int(number) for number in key.split("_")[1:])] = as_tuple(Fraction(share))
    return made


class IsMaking(unittest.TestCase):
    def assertMaking(self, label, thing):
        self.assertIs(is_making(label, thing), True)

    def assertNone(self, label, thing):
        with self.subTest(thing=thing):
            self.assertIs(is_making(label, thing), False)

    def test_makings(self):
        self.assertMaking(BARE, MAKING)
        self.assertMaking(TOLD, MAKING)
        self.assertMaking(DEEP, DEEP_MAKING)
        self.assertMaking(read_row("salt"), {(0,): (1, 1)})
        self.assertIs(is_making(thing=MAKING, label=BARE), True)

    def test_shares_of_nought(self):
        self.assertMaking(BARE, {(0,): (1, 1), (1,): (0, 1), (1, 0): (0, 1), (1, 1): (0, 1), (2,): (0, 1)})
        self.assertMaking(read_row("a (b, c)"), {(0,): (1, 1), (0, 0): (1, 1), (0, 1): (0, 1)})

    def test_alike_shares(self):
        third = (1, 3)
        self.assertMaking(BARE, {(0,): third, (1,): third, (1, 0): (1, 6), (1, 1): (1, 6), (2,): third})

    def test_paths_in_any_order(self):
        self.assertMaking(BARE, {path: MAKING[path] for path in reversed(MAKING)})

    def test_other_kinds(self):
        for thing in NO_DICTS:
            self.assertNone(BARE, thing)
            self.assertNone(TOLD, thing)
        self.assertNone(BARE, BARE)
        self.assertNone(BARE, list(MAKING.items()))

    def test_a_path_less(self):
        for path in MAKING:
            self.assertNone(BARE, {other: share for other, share in MAKING.items() if other != path})
        self.assertNone(BARE, {})
        self.assertNone(BARE, {(0,): (1, 1)})
        self.assertNone(DEEP, {path: share for path, share in DEEP_MAKING.items() if len(path) < 4})

    def test_a_path_more(self):
        for key in NO_PATHS:
            for share in ((0, 1), (1, 4)):
                self.assertNone(BARE, {**MAKING, key: share})
        self.assertNone(BARE, {**MAKING, (2, 0): (1, 4)})

    def test_a_key_that_is_no_path_in_the_place_of_one(self):
        for key in NO_PATHS:
            less = dict(MAKING)
            share = less.pop((2,))
            self.assertNone(BARE, {**less, key: share})

    def test_no_fractions(self):
        for share in NO_FRACTIONS:
            for path in MAKING:
                self.assertNone(BARE, {**MAKING, path: share})
        self.assertNone(read_row("salt"), {(0,): True})
        self.assertNone(read_row("salt"), {(0,): 1})
        self.assertNone(read_row("salt"), {(0,): (2, 2)})

    def test_below_nought(self):
        self.assertNone(BARE, changed(MAKING, at_0="7/10", at_1="1/2", at_2="-1/5", at_1_0="2/5"))
        self.assertNone(BARE, changed(MAKING, at_1_0="2/5", at_1_1="-1/10"))

    def test_shares_that_come_to_less_or_more_than_one(self):
        self.assertNone(BARE, changed(MAKING, at_0="8/20"))
        self.assertNone(BARE, changed(MAKING, at_0="10/20"))
        self.assertNone(BARE, changed(MAKING, at_2="249/1000"))
        self.assertNone(BARE, changed(MAKING, at_2="251/1000"))
        self.assertNone(read_row("salt"), {(0,): (99, 100)})
        self.assertNone(read_row("salt"), {(0,): (101, 100)})

    def test_shares_that_come_to_less_or_more_than_the_place_around(self):
        self.assertNone(BARE, changed(MAKING, at_1_0="19/100"))
        self.assertNone(BARE, changed(MAKING, at_1_0="21/100"))
        self.assertNone(BARE, changed(MAKING, at_1_1="0"))
        self.assertNone(BARE, changed(MAKING, at_1_0="2/3", at_1_1="1/3"))
        self.assertNone(DEEP, changed(DEEP_MAKING, at_0_0_0_1="1/5"))
        self.assertNone(DEEP, changed(DEEP_MAKING, at_0_0_0="1/3", at_0_0_0_0="1/6", at_0_0_0_1="1/6"))
        self.assertNone(DEEP, changed(DEEP_MAKING, at_0_1="1/5"))

    def test_a_share_greater_than_the_one_ahead(self):
        self.assertNone(BARE, changed(MAKING, at_0="1/4", at_2="9/20"))
        self.assertNone(BARE, changed(MAKING, at_0="1/4", at_1="9/20", at_2="3/10", at_1_0="7/20"))
        self.assertNone(BARE, changed(MAKING, at_1_0="1/10", at_1_1="1/5"))
        self.assertNone(BARE, changed(MAKING, at_1_0="149/1000", at_1_1="151/1000"))
        self.assertNone(DEEP, changed(DEEP_MAKING, at_0_0_0_0="1/5", at_0_0_0_1="3/10"))
        self.assertNone(DEEP, changed(DEEP_MAKING, at_0="1/3", at_0_0="1/6", at_0_0_0="1/6", at_0_0_0_0="1/12",
                                      at_0_0_0_1="1/12", at_1="2/3"))

    def test_shares_of_one_list_do_not_bind_another(self):
        label = read_row("a (b, c), d (e, f)")
        self.assertMaking(label, {(0,): (1, 2), (0, 0): (1, 2), (0, 1): (0, 1), (1,): (1, 2), (1, 0): (1, 4), (1, 1): (1, 4)})

    def test_told_shares_at_their_ends(self):
        label = read_row("a 3/5 to 4/5, b 1/5 to 2/5")
        for share in ("3/5", "7/10", "4/5"):
            self.assertMaking(label, changed({}, at_0=share, at_1=1 - Fraction(share)))
        for share in ("599999/1000000", "800001/1000000", "1/2", "1"):
            self.assertNone(label, changed({}, at_0=share, at_1=1 - Fraction(share)))

    def test_each_end_alone(self):
        for row, share, made in (
                ("a 3/5 to 1, b", "3/5", True), ("a 3/5 to 1, b", "5999/10000", False), ("a 3/5 to 1, b", "1", True),
                ("a 0 to 3/5, b", "3/5", True), ("a 0 to 3/5, b", "6001/10000", False), ("a 0 to 3/5, b", "1/2", True),
                ("a, b 1/5 to 1", "4/5", True), ("a, b 1/5 to 1", "8001/10000", False),
                ("a, b 0 to 1/5", "4/5", True), ("a, b 0 to 1/5", "7999/10000", False),
                ("a 3/5, b", "3/5", True), ("a 3/5, b", "5999/10000", False), ("a 3/5, b", "6001/10000", False)):
            self.assertIs(is_making(read_row(row), changed({}, at_0=share, at_1=1 - Fraction(share))), made)

    def test_told_shares_within_are_of_the_whole_ware(self):
        making = changed({}, at_0="1/2", at_0_0="1/3", at_0_1="1/6", at_1="1/2")
        for told, made in (("1/3", True), ("2/3", False), ("1/3 to 1", True), ("0 to 1/3", True), ("0 to 3/10", False)):
            self.assertIs(is_making(read_row(f"a (b {told}, c), d"), making), made)
            self.assertIs(is_making(read_row(f"a 1/2 (b {told}, c), d"), making), made)

    def test_words_do_not_count(self):
        self.assertMaking(read_row("flour, choc (sugar, cocoa), water; may hold egg"), MAKING)

    def test_what_is_handed_in_stays_as_it_was(self):
        thing = defaultdict(lambda: (0, 1), MAKING)
        self.assertMaking(BARE, thing)
        self.assertEqual(thing, MAKING)
        less = defaultdict(lambda: (0, 1), {(0,): (1, 1)})
        self.assertNone(BARE, less)
        self.assertEqual(less, {(0,): (1, 1)})


class OfRecipes(unittest.TestCase):
    """The recipe's own making is one of the makings of the list that is made of it [4]."""

    def test_whatever_is_told(self):
        for seed in range(150):
            recipe = drawn_recipe(seed)
            making = making_of(recipe)
            for names in (None, ["a", "water"], list(LETTERS) + ["water"]):
                for near in (0, 1, 2, 3, 7, 10, 100, 1000):
                    self.assertIs(is_making(label_of(recipe, names, near), making), True)


class Mixed(unittest.TestCase):
    ONE = {(0,): (1, 2), (1,): (3, 10), (1, 0): (1, 5), (1, 1): (1, 10), (2,): (1, 5)}
    OTHER = {(0,): (2, 5), (1,): (1, 3), (1, 0): (1, 6), (1, 1): (1, 6), (2,): (4, 15)}

    def test_by_nought_and_one(self):
        self.assertEqual(mixed(self.ONE, self.OTHER, (0, 1)), self.OTHER)
        self.assertEqual(mixed(self.ONE, self.OTHER, (1, 1)), self.ONE)

    def test_between(self):
        self.assertEqual(mixed(self.ONE, self.OTHER, (1, 2)), {
            (0,): (9, 20), (1,): (19, 60), (1, 0): (11, 60), (1, 1): (2, 15), (2,): (7, 30)})
        self.assertEqual(mixed(self.ONE, self.OTHER, (1, 3))[(0,)], (13, 30))
        self.assertEqual(mixed(part=(1, 3), other=self.OTHER, one=self.ONE)[(1, 1)], (13, 90))

    def test_that_is_a_making_too(self):
        label = read_row("flour 2/5 to 1/2, choc (sugar, cocoa 1/10 to 1/6), water 1/5 to 4/15")
        for part in ((0, 1), (1, 7), (1, 2), (99, 100), (1, 1)):
            self.assertIs(is_making(label, mixed(self.ONE, self.OTHER, part)), True)
            self.assertIs(is_making(label, mixed(self.OTHER, self.ONE, part)), True)

    def test_with_itself(self):
        for part in ((0, 1), (1, 7), (1, 1)):
            self.assertEqual(mixed(MAKING, MAKING, part), MAKING)

    def test_told_dicts_are_the_askers_own(self):
        one, other = dict(self.ONE), dict(self.OTHER)
        for part in ((0, 1), (1, 1), (1, 2)):
            told = mixed(one, other, part)
            again = dict(mixed(one, other, part))
            told.clear()
            self.assertEqual((one, other), (self.ONE, self.OTHER))
            self.assertEqual(mixed(one, other, part), again)
        told = mixed(one, one, (1, 2))
        one[(0,)] = (0, 1)
        self.assertEqual(told, self.ONE)


class Cost(unittest.TestCase):
    def assertNoPrices(self, prices, making=MAKING):
        with self.subTest(prices=prices):
            with self.assertRaises(NoPrices) as caught:
                cost(TOLD, prices, making)
            self.assertIsInstance(caught.exception, StuffError)

    def test_by_none_some_and_all_paths(self):
        self.assertEqual(cost(TOLD, {}, MAKING), (0, 1))
        self.assertEqual(cost(TOLD, {(0,): (1, 1)}, MAKING), (9, 20))
        self.assertEqual(cost(TOLD, {(1, 1): (1, 3)}, MAKING), (1, 30))
        self.assertEqual(cost(TOLD, {(1,): (1, 1), (1, 0): (1, 1), (1, 1): (1, 1)}, MAKING), (3, 5))
        self.assertEqual(cost(TOLD, {path: (2, 1) for path in MAKING}, MAKING), (13, 5))
        self.assertEqual(cost(making=MAKING, prices={(2,): (1, 1)}, label=TOLD), (1, 4))

    def test_above_and_below_nought(self):
        self.assertEqual(cost(TOLD, {(0,): (-1, 1)}, MAKING), (-9, 20))
        self.assertEqual(cost(TOLD, {(0,): (1, 1), (2,): (-2, 1)}, MAKING), (-1, 20))
        self.assertEqual(cost(TOLD, {(1,): (1, 1), (1, 0): (-1, 1), (1, 1): (-1, 1)}, MAKING), (0, 1))
        self.assertEqual(cost(TOLD, {(0,): (0, 1)}, MAKING), (0, 1))

    def test_prices_of_many_figures(self):
        one, two = (12345678901234567891, 98765432109876543210), (-98765432109876543211, 10 ** 19)
        found = Fraction(*one) * Fraction(9, 20) + Fraction(*two) * Fraction(1, 10)
        self.assertEqual(cost(TOLD, {(0,): one, (1, 1): two}, MAKING), as_tuple(found))

    def test_no_dict(self):
        for thing in NO_DICTS:
            self.assertNoPrices(thing)

    def test_keys_that_are_no_paths(self):
        for key in NO_PATHS:
            self.assertNoPrices({key: (1, 1)})
            self.assertNoPrices({key: (0, 1)})
            self.assertNoPrices({(0,): (1, 1), key: (1, 1)})

    def test_prices_that_are_no_fractions(self):
        for price in NO_FRACTIONS:
            self.assertNoPrices({(0,): price})
            self.assertNoPrices({(0,): (1, 1), (1, 1): price, (2,): (1, 1)})

    def test_no_making(self):
        for thing in list(NO_DICTS) + [{}, {(0,): (1, 1)}, changed(MAKING, at_0="8/20"), {**MAKING, (3,): (0, 1)},
                                       changed(MAKING, at_2="1/5", at_0="1/2")]:
            for prices in ({}, {(0,): (1, 1)}):
                with self.assertRaises(NoMaking) as caught:
                    cost(TOLD, prices, thing)
                self.assertIsInstance(caught.exception, StuffError)

    def test_both_due_at_once(self):
        self.assertNoPrices(None, None)
        self.assertNoPrices({(0,): 1}, {})
        self.assertNoPrices({(): (1, 1)}, changed(MAKING, at_0="8/20"))

    def test_what_is_handed_in_stays_as_it_was(self):
        prices, making = defaultdict(lambda: (1, 1), {(0,): (1, 1)}), dict(MAKING)
        self.assertEqual(cost(TOLD, prices, making), (9, 20))
        self.assertEqual((prices, making), ({(0,): (1, 1)}, MAKING))

    def test_a_mixed_making_costs_a_mixed_cost(self):
        prices = {(0,): (3, 1), (1, 1): (-2, 7)}
        half = mixed(Mixed.ONE, Mixed.OTHER, (1, 4))
        found = [Fraction(*cost(BARE, prices, making)) for making in (Mixed.ONE, Mixed.OTHER, half)]
        self.assertEqual(found[2], found[0] / 4 + found[1] * 3 / 4)


if __name__ == "__main__":
    unittest.main()
