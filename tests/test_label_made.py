"""How a label is made, and its refusals [6, 7]."""

import unittest

from stufflists import errors
from stufflists.labels import Label

HALF = ((1, 2), (1, 2))
PLAIN = ("salt", None, None)
NAMES = ("aa", "bb", "cc", "dd", "ee", "ff", "gg", "hh", "ii", "jj", "kk", "ll", "mm")


def plain(*names):
    return tuple((name, None, None) for name in names)


def nested(names, inside=None):
    """A LIST of one place that holds a LIST of one place, and so on, by these names."""
    for name in reversed(names):
        inside = ((name, None, inside),)
    return inside


# Each way in which a thing by itself is no PLACE.
WRONG_THINGS = (
    None, 1, True, "abc", b"abc", object(), ["egg", None, None], {"egg": 1, "b": 2, "c": 3}, (), ("egg",),
    ("egg", None), ("egg", None, None, None),
    ("", None, None), ("Egg", None, None), ("abcdefghi", None, None), ("egg1", None, None), ("e g", None, None),
    (None, None, None), (1, None, None), (b"egg", None, None), (["egg"], None, None), (("egg",), None, None),
    ("egg", (1, 2), None), ("egg", ((1, 2),), None), ("egg", ((1, 2), (1, 3)), None), ("egg", [(0, 1), (1, 1)], None),
    ("egg", ((2, 4), (1, 1)), None), ("egg", ((-1, 2), (1, 1)), None), ("egg", ((0, 1), (3, 2)), None),
    ("egg", "1/2", None), ("egg", 0, None), ("egg", False, None), ("egg", (), None), ("egg", ((False, 1), (1, 1)), None),
    ("egg", None, ()), ("egg", None, []), ("egg", None, [("yolk", None, None)]), ("egg", None, "yolk"),
    ("egg", None, 0), ("egg", None, False), ("egg", None, {"yolk": 1}),
)


class Refused(unittest.TestCase):
    def assertNoPlace(self, path, places, *may):
        with self.assertRaises(errors.NoPlace) as caught:
            Label(places, *may)
        self.assertEqual(caught.exception.path, path)
        self.assertIs(type(caught.exception.path), tuple)

    def assertNoName(self, number, places, may):
        with self.assertRaises(errors.NoName) as caught:
            Label(places, may)
        self.assertEqual(caught.exception.number, number)

    def assertTooMany(self, places, *may):
        with self.assertRaises(errors.TooMany):
            Label(places, *may)


class NoPlaces(Refused):
    def test_no_tuple_or_nothing_in_it(self):
        for thing in (None, (), [], [PLAIN], "salt", "", 0, 1, True, {}, {PLAIN: 1}, {PLAIN}, object(), b"salt"):
            self.assertNoPlace((), thing)

    def test_at_the_first_place(self):
        for thing in WRONG_THINGS:
            with self.subTest(thing=thing):
                self.assertNoPlace((0,), (thing,))
                self.assertNoPlace((0,), (thing, PLAIN))

    def test_at_a_later_place(self):
        for thing in WRONG_THINGS:
            with self.subTest(thing=thing):
                self.assertNoPlace((2,), (PLAIN, ("oil", HALF, None), thing, ("rye", None, None)))

    def test_at_inner_places(self):
        for thing in WRONG_THINGS:
            with self.subTest(thing=thing):
                self.assertNoPlace((1, 0), (PLAIN, ("dough", None, (thing,)), ("rye", None, None)))
                deep = ("dough", None, (("rye", None, None), ("mix", HALF, (("malt", None, None), thing))))
                self.assertNoPlace((1, 1, 1), (PLAIN, deep, ("oil", None, None)))
                deepest = ("dough", None, (("mix", None, (("malt", None, (thing,)),)),))
                self.assertNoPlace((0, 0, 0, 0), (deepest,))

    def test_the_first_path_in_order_is_told(self):
        wrong = ("EGG", None, None)
        inner = ("dough", None, (PLAIN, wrong))
        self.assertNoPlace((0, 1), (inner, wrong))
        self.assertNoPlace((0,), (wrong, inner))
        self.assertNoPlace((1,), (PLAIN, wrong, wrong))
        self.assertNoPlace((0, 0), (("dough", None, (wrong, wrong)), wrong))
        self.assertNoPlace((0, 0, 1), (("dough", None, (("mix", None, (PLAIN, wrong)), wrong)),))

    def test_inside_of_what_is_no_place_is_not_looked_at(self):
        self.assertNoPlace((0,), (("EGG", None, (None, 1)),))
        self.assertNoPlace((0,), (("egg", 1, (None, 1)),))
        self.assertNoPlace((1,), (PLAIN, ("salt", None, (None,))))

    def test_a_name_that_stands_ahead_in_its_list(self):
        self.assertNoPlace((1,), plain("salt", "salt"))
        self.assertNoPlace((2,), plain("salt", "oil", "salt"))
        self.assertNoPlace((2,), plain("salt", "oil", "oil", "salt"))
        self.assertNoPlace((1, 2), (PLAIN, ("dough", None, plain("rye", "oil", "rye"))))
        self.assertNoPlace((1,), (("dough", None, plain("rye")), ("dough", None, None)))

    def test_a_name_of_a_place_around_it(self):
        self.assertNoPlace((0, 0), nested(("aa", "aa")))
        self.assertNoPlace((0, 0, 0), nested(("aa", "bb", "bb")))
        self.assertNoPlace((0, 0, 0), nested(("aa", "bb", "aa")))
        self.assertNoPlace((0, 0, 0, 0), nested(("aa", "bb", "cc", "aa")))
        self.assertNoPlace((0, 0, 0, 0), nested(("aa", "bb", "cc", "bb")))
        self.assertNoPlace((0, 1), (("aa", None, plain("bb", "aa")),))

    def test_names_elsewhere_may_be_the_same(self):
        places = (("aa", None, plain("salt", "oil")), ("bb", None, plain("oil", "salt", "aa")), PLAIN)
        self.assertEqual(Label(places).places(), places)

    def test_four_numbers_in_a_path(self):
        self.assertEqual(Label(nested(("aa", "bb", "cc", "dd"))).paths()[-1], (0, 0, 0, 0))

    def test_five_numbers_in_a_path(self):
        self.assertNoPlace((0, 0, 0, 0, 0), nested(("aa", "bb", "cc", "dd", "ee")))
        self.assertNoPlace((0, 0, 0, 0, 0), nested(("aa", "bb", "cc", "dd", "ee", "ff")))
        self.assertNoPlace((0, 0, 0, 0, 0), nested(("aa", "bb", "cc", "dd"), (None,)))
        self.assertNoPlace((1, 0, 0, 0, 0), (PLAIN,) + nested(("aa", "bb", "cc", "dd", "ee")) + (None,))
        self.assertNoPlace((0, 0, 0, 0), nested(("aa", "bb", "cc", "dd"), ()))

    def test_many_levels(self):
        self.assertNoPlace((0, 0, 0, 0, 0), nested(["n" + "x" * k for k in range(1, 8)] * 2))


class Counted(Refused):
    def test_twelve_places(self):
        self.assertEqual(len(Label(plain(*NAMES[:12]))), 12)
        inner = (("top", None, plain(*NAMES[:5])), ("low", None, plain(*NAMES[:5])))
        self.assertEqual(len(Label(inner)), 12)

    def test_thirteen_places(self):
        self.assertTooMany(plain(*NAMES))
        inner = (("top", None, plain(*NAMES[:5])), ("low", None, plain(*NAMES[:6])))
        self.assertTooMany(inner)
        self.assertTooMany((("top", None, plain(*NAMES[:12])),))

    def test_many_more(self):
        letters = "abcdefghijklmnopqrstuvwxyz"
        self.assertTooMany(plain(*[one + other for one in letters for other in letters]))


class Words(Refused):
    def test_none_at_all(self):
        for words in (None, [], ()):
            self.assertEqual(Label((PLAIN,), words).may(), [])
        self.assertEqual(Label((PLAIN,)).may(), [])

    def test_a_list_and_a_tuple(self):
        self.assertEqual(Label((PLAIN,), ["nut", "egg"]).may(), ["egg", "nut"])
        self.assertEqual(Label((PLAIN,), ("nut", "egg")).may(), ["egg", "nut"])
        self.assertEqual(Label(may=["nut"], places=(PLAIN,)).may(), ["nut"])

    def test_twice_the_same(self):
        self.assertEqual(Label((PLAIN,), ["nut", "egg", "nut", "egg", "nut"]).may(), ["egg", "nut"])

    def test_names_of_places_may_be_words(self):
        self.assertEqual(Label((PLAIN,), ["salt"]).may(), ["salt"])

    def test_a_first_one_that_is_no_name(self):
        for word in ("", "Nut", "abcdefghi", None, 1, True, ["nut"], {}, object()):
            self.assertNoName(0, (PLAIN,), [word])
            self.assertNoName(0, (PLAIN,), (word, "nut", word))

    def test_a_later_one_that_is_no_name(self):
        for word in ("", "Nut", "abcdefghi", None, 1, True, ["nut"], {}, object()):
            self.assertNoName(2, (PLAIN,), ["nut", "egg", word])
            self.assertNoName(1, (PLAIN,), ["nut", word, "egg", word])

    def test_the_same_twice_counts_in_the_number(self):
        self.assertNoName(3, (PLAIN,), ["nut", "nut", "nut", ""])

    def test_no_list(self):
        for words in ("nut", "", 0, 1, True, False, {}, {"nut": 1}, {"nut"}, b"nut", object()):
            self.assertNoName(-1, (PLAIN,), words)


class SeveralAtOnce(Refused):
    def test_no_place_ahead_of_too_many(self):
        self.assertNoPlace((13,), plain(*NAMES, "aa", "bb"))
        self.assertNoPlace((12, 0), plain(*NAMES[:12]) + (("top", None, (None,)),))

    def test_no_place_ahead_of_no_name(self):
        self.assertNoPlace((), (), ["NUT"])
        self.assertNoPlace((), [PLAIN], 7)
        self.assertNoPlace((1,), (PLAIN, PLAIN), ["NUT"])
        self.assertNoPlace((13,), plain(*NAMES) + (None,), 7)

    def test_too_many_ahead_of_no_name(self):
        self.assertTooMany(plain(*NAMES), ["NUT"])
        self.assertTooMany(plain(*NAMES), 7)


class UnderTheirClasses(unittest.TestCase):
    def test_each_refusal_stands_under_its_own_class_alone(self):
        calls = {
            errors.NoPlace: lambda: Label(()),
            errors.TooMany: lambda: Label(plain(*NAMES)),
            errors.NoName: lambda: Label((PLAIN,), [""]),
            errors.NoPath: lambda: Label((PLAIN,)).name_at((1,)),
        }
        for own, call in calls.items():
            with self.assertRaises(errors.StuffError) as caught:
                call()
            self.assertIsInstance(caught.exception, ValueError)
            for other in list(calls) + [errors.NoStretch, errors.TextError]:
                self.assertEqual(isinstance(caught.exception, other), other == own)
            self.assertNotIsInstance(caught.exception, LookupError)


class LaterChanges(unittest.TestCase):
    def test_words_changed_later_change_nothing(self):
        words = ["nut", "egg"]
        label = Label((PLAIN,), words)
        self.assertEqual(words, ["nut", "egg"])
        words.append("milk")
        words[0] = "EGG"
        self.assertEqual(label.may(), ["egg", "nut"])
        self.assertEqual(str(label), "salt; may hold egg, nut")

    def test_words_are_left_as_they_were_where_refused(self):
        words = ["nut", "egg", ""]
        with self.assertRaises(errors.NoName):
            Label((PLAIN,), words)
        self.assertEqual(words, ["nut", "egg", ""])

    def test_told_lists_are_the_askers_own(self):
        label = Label((("dough", None, plain("rye", "oil")), PLAIN), ["nut", "egg"])
        for ask, told in ((label.may, ["egg", "nut"]), (label.paths, [(0,), (0, 0), (0, 1), (1,)])):
            first, second = ask(), ask()
            first.append("more")
            del first[0]
            self.assertEqual(second, told)
            self.assertEqual(ask(), told)
            second.clear()
            self.assertEqual(ask(), told)
        self.assertEqual(len(label), 4)
        self.assertEqual(label.name_at((1,)), "salt")
        self.assertEqual(str(label), "dough (rye, oil), salt; may hold egg, nut")


if __name__ == "__main__":
    unittest.main()
