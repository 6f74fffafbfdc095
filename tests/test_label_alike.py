"""Labels that are alike, len, str, repr [8], rows [9]."""

import unittest

from stufflists.fractions import times
from stufflists.labels import Label

FIFTH = ((1, 5), (1, 4))
PLACES = (("dough", FIFTH, (("rye", None, None), ("oil", None, None))), ("salt", None, None))
EXAMPLE = (
    ("flour", ((2, 5), (2, 5)), None),
    ("choc", FIFTH, (("sugar", None, None), ("cocoa", ((1, 10), (1, 1)), None))),
    ("water", None, None),
)

# Each differs from PLACES in one thing.
OTHERS = (
    (("paste", FIFTH, (("rye", None, None), ("oil", None, None))), ("salt", None, None)),
    (("dough", FIFTH, (("rye", None, None), ("fat", None, None))), ("salt", None, None)),
    (("dough", None, (("rye", None, None), ("oil", None, None))), ("salt", None, None)),
    (("dough", ((1, 5), (1, 3)), (("rye", None, None), ("oil", None, None))), ("salt", None, None)),
    (("dough", ((1, 6), (1, 4)), (("rye", None, None), ("oil", None, None))), ("salt", None, None)),
    (("dough", FIFTH, (("rye", None, None), ("oil", FIFTH, None))), ("salt", None, None)),
    (("dough", FIFTH, None), ("salt", None, None)),
    (("dough", FIFTH, (("rye", None, None),)), ("salt", None, None)),
    (("dough", FIFTH, (("rye", None, None), ("oil", None, None))),),
    (("dough", FIFTH, (("rye", None, None), ("oil", None, None))), ("salt", None, None), ("egg", None, None)),
    (("dough", FIFTH, (("oil", None, None), ("rye", None, None))), ("salt", None, None)),
    (("salt", None, None), ("dough", FIFTH, (("rye", None, None), ("oil", None, None)))),
    (("dough", FIFTH, (("rye", None, None),)), ("oil", None, None), ("salt", None, None)),
)


class Always:
    """Like everything, by its own word."""

    def __eq__(self, other):
        return True


class Alike(unittest.TestCase):
    def assertAlike(self, one, other):
        self.assertIs(one == other, True)
        self.assertIs(other == one, True)
        self.assertIs(one != other, False)
        self.assertEqual(str(one), str(other))

    def assertUnlike(self, one, other):
        self.assertIs(one == other, False)
        self.assertIs(other == one, False)
        self.assertIs(one != other, True)

    def test_the_same_made_twice(self):
        self.assertAlike(Label(PLACES), Label(tuple(list(PLACES))))
        self.assertAlike(Label(PLACES, ["egg", "nut"]), Label(PLACES, ["egg", "nut"]))

    def test_one_thing_different(self):
        for other in OTHERS:
            with self.subTest(other=other):
                self.assertUnlike(Label(PLACES, ["egg"]), Label(other, ["egg"]))
                self.assertNotEqual(str(Label(PLACES, ["egg"])), str(Label(other, ["egg"])))

    def test_words(self):
        self.assertAlike(Label(PLACES, ["egg", "nut"]), Label(PLACES, ("nut", "egg", "nut")))
        self.assertAlike(Label(PLACES), Label(PLACES, []))
        self.assertUnlike(Label(PLACES, ["egg", "nut"]), Label(PLACES, ["egg"]))
        self.assertUnlike(Label(PLACES, ["egg"]), Label(PLACES, ["nut"]))
        self.assertUnlike(Label(PLACES, ["egg"]), Label(PLACES))

    def test_like_nothing_else(self):
        label = Label(PLACES, ["egg"])
        for thing in (None, 0, 1, True, PLACES, list(PLACES), ["egg"], str(label), repr(label), (PLACES, ["egg"]),
                      {}, object(), Label):
            self.assertUnlike(label, thing)

    def test_not_even_what_says_so(self):
        self.assertIs(Label(PLACES) == Always(), False)


class Length(unittest.TestCase):
    def test_all_places_count(self):
        self.assertEqual(len(Label((("salt", None, None),))), 1)
        self.assertEqual(len(Label(PLACES)), 4)
        self.assertEqual(len(Label(PLACES, ["egg", "nut"])), 4)
        self.assertEqual(len(Label(EXAMPLE)), 5)


class Rows(unittest.TestCase):
    def assertRow(self, row, *made_of):
        self.assertEqual(str(Label(*made_of)), row)
        self.assertEqual(repr(Label(*made_of)), "Label(" + row + ")")

    def test_the_example(self):
        self.assertRow("flour 2/5, choc 1/5 to 1/4 (sugar, cocoa 1/10 to 1), water; may hold egg, nut",
                       EXAMPLE, ["nut", "egg"])

    def test_without_words(self):
        self.assertRow("flour 2/5, choc 1/5 to 1/4 (sugar, cocoa 1/10 to 1), water", EXAMPLE)

    def test_one_place(self):
        self.assertRow("salt", (("salt", None, None),))
        self.assertRow("salt; may hold egg", (("salt", None, None),), ["egg"])

    def test_told_ends(self):
        for told, text in ((((0, 1), (0, 1)), "0"), (((1, 1), (1, 1)), "1"), (((0, 1), (1, 1)), "0 to 1"),
                           (((0, 1), (1, 3)), "0 to 1/3"), (((2, 3), (2, 3)), "2/3")):
            self.assertRow("salt " + text, (("salt", told, None),))

    def test_lists_within_lists(self):
        deep = ("aa", None, (("bb", FIFTH, (("cc", None, (("dd", None, None), ("ee", FIFTH, None))),)),
                             ("ff", None, None)))
        self.assertRow("aa (bb 1/5 to 1/4 (cc (dd, ee 1/5 to 1/4)), ff), gg", (deep, ("gg", None, None)))

    def test_told_fractions_of_any_size(self):
        end = (1, 7)
        for _ in range(13):
            end = times(end, end)
        row = str(Label((("salt", (end, (1, 2)), None),)))
        self.assertTrue(row.startswith("salt 1/"))
        self.assertTrue(row.endswith(" to 1/2"))
        self.assertGreater(len(row), 6000)


if __name__ == "__main__":
    unittest.main()
