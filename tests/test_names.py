"""NAMES and STRETCHES [6]."""

import unittest

from stufflists.labels import is_name, is_stretch


class Names(unittest.TestCase):
    def test_names(self):
        for thing in ("a", "z", "nut", "flour", "abcdefgh", "zzzzzzzz"):
            self.assertIs(is_name(thing), True)
        self.assertIs(is_name(thing="egg"), True)

    def test_lengths(self):
        self.assertIs(is_name(""), False)
        self.assertIs(is_name("abcdefghi"), False)
        self.assertIs(is_name("a" * 400), False)

    def test_other_signs(self):
        for thing in ("Egg", "eGg", "egG", "egg1", "1egg", "e1g", "egg ", " egg", "e gg", " ", "egg\n", "e-g", "e_g",
                      "`a", "a{", "eg\u00e4", "\u00df", "\u0430", "\uff41"):
            self.assertIs(is_name(thing), False)

    def test_other_kinds(self):
        for thing in (None, 1, 0, True, b"egg", ["egg"], ("egg",), ("e", "g"), ["e"], {"e"}, {"egg": 1}, object(), str):
            self.assertIs(is_name(thing), False)


class Stretches(unittest.TestCase):
    def test_stretches(self):
        for thing in (((0, 1), (1, 1)), ((1, 5), (1, 4)), ((1, 3), (1, 2)), ((0, 1), (1, 10 ** 19))):
            self.assertIs(is_stretch(thing), True)
        self.assertIs(is_stretch(thing=((1, 5), (1, 4))), True)

    def test_both_ends_alike(self):
        for end in ((0, 1), (1, 2), (1, 1)):
            self.assertIs(is_stretch((end, end)), True)

    def test_exchanged(self):
        for thing in (((1, 4), (1, 5)), ((1, 1), (0, 1)), ((1, 2), (1, 3))):
            self.assertIs(is_stretch(thing), False)

    def test_below_nought(self):
        for thing in (((-1, 2), (1, 2)), ((-1, 10), (0, 1)), ((-1, 2), (-1, 3))):
            self.assertIs(is_stretch(thing), False)

    def test_above_one(self):
        for thing in (((1, 2), (3, 2)), ((1, 1), (11, 10)), ((2, 1), (2, 1)), ((0, 1), (10 ** 19 + 1, 10 ** 19))):
            self.assertIs(is_stretch(thing), False)

    def test_ends_that_are_no_fractions(self):
        for end in ((2, 4), (1, 0), (1, -2), (True, 2), (1, True), (0, 2), [1, 2], (1,), (1, 2, 3), None, 0, 1, "1/2"):
            self.assertIs(is_stretch((end, (1, 1))), False)
            self.assertIs(is_stretch(((0, 1), end)), False)
        self.assertIs(is_stretch(((False, 1), (True, 1))), False)

    def test_other_lengths(self):
        for thing in ((), ((0, 1),), ((0, 1), (1, 2), (1, 1))):
            self.assertIs(is_stretch(thing), False)

    def test_other_kinds(self):
        for thing in ([(0, 1), (1, 1)], [[0, 1], [1, 1]], ([0, 1], [1, 1]), None, 0, 1, True, "ab", "0 to 1", b"ab",
                      (0, 1), {(0, 1), (1, 1)}, {(0, 1): (1, 1)}, object(), tuple):
            self.assertIs(is_stretch(thing), False)


if __name__ == "__main__":
    unittest.main()
