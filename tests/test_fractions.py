"""Fractions [5]."""

import unittest
from fractions import Fraction

from stufflists.errors import NoFraction, StuffError
from stufflists.fractions import (fraction, fraction_in, fraction_text, is_fraction, is_from_nought, is_less, minus,
                                  over, plus, times, total)

LONG = 98765432109876543210
OTHER_LONG = 12345678901234567891

SOME = [(0, 1), (1, 1), (-1, 1), (1, 2), (-1, 2), (3, 4), (-3, 4), (5, 6), (7, 3), (-7, 3), (100, 1),
        (LONG, OTHER_LONG), (-OTHER_LONG, LONG), (1, LONG), (LONG, 1)]


def as_tuple(value):
    return (value.numerator, value.denominator)


class FractionsOfTwoNumbers(unittest.TestCase):
    def test_lowest_terms(self):
        self.assertEqual(fraction(3, 4), (3, 4))
        self.assertEqual(fraction(6, 8), (3, 4))
        self.assertEqual(fraction(12, 4), (3, 1))
        self.assertEqual(fraction(0, 7), (0, 1))
        self.assertEqual(fraction(7, 7), (1, 1))

    def test_signs(self):
        self.assertEqual(fraction(-6, 8), (-3, 4))
        self.assertEqual(fraction(6, -8), (-3, 4))
        self.assertEqual(fraction(-6, -8), (3, 4))
        self.assertEqual(fraction(0, -7), (0, 1))

    def test_all_small_numbers(self):
        for top in range(-30, 31):
            for bottom in list(range(-30, 0)) + list(range(1, 31)):
                self.assertEqual(fraction(top, bottom), as_tuple(Fraction(top, bottom)))

    def test_twenty_figures(self):
        self.assertEqual(fraction(LONG, -OTHER_LONG), as_tuple(Fraction(LONG, -OTHER_LONG)))
        self.assertEqual(fraction(2 * LONG, 4 * LONG), (1, 2))

    def test_bottom_of_nought(self):
        for top in (0, 1, -5, LONG):
            with self.assertRaises(NoFraction):
                fraction(top, 0)

    def test_by_names(self):
        self.assertEqual(fraction(bottom=4, top=2), (1, 2))

    def test_numbers_within_are_plain(self):
        for number in fraction(6, -4):
            self.assertIs(type(number), int)


class Reckoning(unittest.TestCase):
    def test_sums_differences_and_products(self):
        for one in SOME:
            for other in SOME:
                with self.subTest(one=one, other=other):
                    left, right = Fraction(*one), Fraction(*other)
                    self.assertEqual(plus(one, other), as_tuple(left + right))
                    self.assertEqual(minus(one, other), as_tuple(left - right))
                    self.assertEqual(times(one, other), as_tuple(left * right))

    def test_quotients(self):
        for one in SOME:
            for other in SOME[1:]:
                with self.subTest(one=one, other=other):
                    self.assertEqual(over(one, other), as_tuple(Fraction(*one) / Fraction(*other)))

    def test_by_nought(self):
        for one in SOME:
            with self.assertRaises(NoFraction):
                over(one, (0, 1))

    def test_refusal_is_a_stuff_error(self):
        with self.assertRaises(StuffError):
            over((1, 2), (0, 1))

    def test_less(self):
        for one in SOME:
            for other in SOME:
                self.assertIs(is_less(one, other), Fraction(*one) < Fraction(*other))

    def test_by_names(self):
        self.assertEqual(plus(other=(1, 3), one=(1, 2)), (5, 6))
        self.assertEqual(minus(other=(1, 3), one=(1, 2)), (1, 6))
        self.assertEqual(times(other=(1, 3), one=(1, 2)), (1, 6))
        self.assertEqual(over(other=(1, 3), one=(1, 2)), (3, 2))
        self.assertIs(is_less(other=(1, 3), one=(1, 2)), False)


class IsFraction(unittest.TestCase):
    def test_fractions(self):
        for one in SOME:
            self.assertIs(is_fraction(one), True)
        self.assertIs(is_fraction(thing=(1, 2)), True)

    def test_not_in_lowest_terms(self):
        for thing in ((2, 4), (-2, 4), (3, 3), (0, 2), (10, 5), (2 * LONG, 2 * OTHER_LONG)):
            self.assertIs(is_fraction(thing), False)

    def test_bottom_of_nought_or_below(self):
        for thing in ((1, 0), (0, 0), (-1, 0), (1, -2), (-1, -2), (0, -1), (3, -1)):
            self.assertIs(is_fraction(thing), False)

    def test_turned_about(self):
        self.assertIs(is_fraction((1, 3)[::-1]), True)
        self.assertIs(is_fraction((-3, 1)[::-1]), False)
        self.assertIs(is_fraction((0, 1)[::-1]), False)

    def test_true_and_false_within(self):
        for thing in ((True, 2), (1, True), (False, 1), (True, True), (False, True), (3, True)):
            self.assertIs(is_fraction(thing), False)

    def test_other_lengths(self):
        for thing in ((), (1,), (1, 2, 3), (1, 2, None)):
            self.assertIs(is_fraction(thing), False)

    def test_other_kinds(self):
        for thing in ([1, 2], {1, 2}, {1: 2}, "1/2", "12", b"12", None, 1, 0, True, object(), ("1", "2"),
                      ((1, 2), 1), (1, (2, 3)), ([1], 2), (None, 1), (1, None), Fraction(1, 2), int):
            self.assertIs(is_fraction(thing), False)


class Texts(unittest.TestCase):
    def test_whole(self):
        self.assertEqual(fraction_text((3, 1)), "3")
        self.assertEqual(fraction_text((0, 1)), "0")
        self.assertEqual(fraction_text((-3, 1)), "-3")
        self.assertEqual(fraction_text((-1, 1)), "-1")
        self.assertEqual(fraction_text(one=(100, 1)), "100")

    def test_broken(self):
        self.assertEqual(fraction_text((3, 4)), "3/4")
        self.assertEqual(fraction_text((-3, 4)), "-3/4")
        self.assertEqual(fraction_text((1, 10)), "1/10")
        self.assertEqual(fraction_text((-1, 2)), "-1/2")

    def test_twenty_figures(self):
        self.assertEqual(fraction_text((-LONG, OTHER_LONG)), "-98765432109876543210/12345678901234567891")

    def test_noughts_within_long_numbers(self):
        for power in (59, 60, 61, 119, 120, 121, 600):
            self.assertEqual(fraction_text((10 ** power, 1)), "1" + "0" * power)
            self.assertEqual(fraction_text((1, 10 ** power + 7)), "1/1" + "0" * (power - 1) + "7")

    def test_what_was_told_may_be_of_any_size(self):
        told = (-3, 7)
        for _ in range(14):
            told = times(told, told)
        told = times(told, (-1, 1))
        top, bottom = fraction_text(told).split("/")
        self.assertTrue(is_fraction(told))
        self.assertGreater(len(top), 5000)
        self.assertEqual(top[0], "-")
        self.assertEqual(self.number(top[1:]), 3 ** 2 ** 14)
        self.assertEqual(self.number(bottom), 7 ** 2 ** 14)

    def number(self, text):
        # Python itself does not read so many figures at once.
        value = 0
        for sign in text:
            value = 10 * value + int(sign)
        return value


class TextsRead(unittest.TestCase):
    def test_read_back(self):
        for one in SOME:
            self.assertEqual(fraction_in(fraction_text(one)), one)
        for power in (59, 60, 61, 119, 120, 121, 6000):
            for one in ((10 ** power, 1), (-1, 10 ** power + 7), (10 ** power + 1, 10 ** power)):
                self.assertEqual(fraction_in(fraction_text(one)), one)

    def test_no_texts_of_fractions(self):
        for text in ("", "-", "/", "-/", "1/", "/2", "-0", "00", "01", "1/02", "2/4", "3/1", "0/1", "0/2", "1/0", "0/0",
                     "1/-2", "--1", "+1", " 1", "1 ", "1/ 2", "1 /2", "1/2/3", "1//2", "1.0", "1e2", "1_0", "x", "1\n",
                     "\u0661", "\u00b2", "1-", "-1-", "1/2-"):
            self.assertIsNone(fraction_in(text), text)


class Sums(unittest.TestCase):
    def test_of_none_and_some(self):
        self.assertEqual(total([]), (0, 1))
        self.assertEqual(total([(1, 2), (1, 3), (-1, 6)]), (2, 3))
        self.assertEqual(total(SOME), as_tuple(sum((Fraction(*one) for one in SOME), Fraction(0))))

    def test_from_nought_on(self):
        for one in SOME:
            self.assertIs(is_from_nought(one), one[0] >= 0)
        for thing in (None, 0, 1, True, (2, 4), (0, 2), (True, 1), [1, 2], "1", (1, -1)):
            self.assertIs(is_from_nought(thing), False)


if __name__ == "__main__":
    unittest.main()
