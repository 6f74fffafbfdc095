"""What a label tells of its places by their paths [6, 7]."""

import unittest

from stufflists.errors import NoPath
from stufflists.labels import Label

FIFTH = ((1, 5), (1, 4))
HALF = ((1, 2), (1, 2))

PLACES = (
    ("flour", HALF, None),
    ("choc", FIFTH, (
        ("sugar", None, None),
        ("paste", None, (
            ("cocoa", ((1, 10), (1, 1)), (("bean", None, None), ("husk", ((0, 1), (0, 1)), None))),
            ("milk", None, None),
            ("fat", None, None),
        )),
    )),
    ("water", None, (("salt", None, None),)),
    ("egg", None, None),
)

# path: name, told, many
TOLD = {
    (0,): ("flour", HALF, 0),
    (1,): ("choc", FIFTH, 2),
    (1, 0): ("sugar", None, 0),
    (1, 1): ("paste", None, 3),
    (1, 1, 0): ("cocoa", ((1, 10), (1, 1)), 2),
    (1, 1, 0, 0): ("bean", None, 0),
    (1, 1, 0, 1): ("husk", ((0, 1), (0, 1)), 0),
    (1, 1, 1): ("milk", None, 0),
    (1, 1, 2): ("fat", None, 0),
    (2,): ("water", None, 1),
    (2, 0): ("salt", None, 0),
    (3,): ("egg", None, 0),
}

NO_PATHS = (
    (4,), (12,), (1, 2), (1, 1, 3), (1, 1, 0, 2), (2, 1), (0, 0), (3, 0), (1, 0, 0), (1, 1, 0, 0, 0), (1, 1, 1, 0),
    (-1,), (-4,), (1, -1), (1, 1, -1), (10 ** 30,), (0,) * 30,
    [0], [1, 1], [], ([0],), ((0,),), (1, (1,)), ({},), "0", "", "choc", ("0",), ("choc",), ("",), b"", b"0",
    0, 1, -1, None, (None,), True, False, (True,), (False,), (1, True), (1, False), (True, True), (True, 1, 0),
    {}, {0: 1}, {0}, object(), tuple,
)


class Asked(unittest.TestCase):
    def setUp(self):
        self.label = Label(PLACES, ["nut"])

    def test_the_list(self):
        self.assertEqual(self.label.places(), PLACES)
        self.assertIs(type(self.label.places()), tuple)

    def test_all_paths_in_order(self):
        self.assertEqual(self.label.paths(), list(TOLD))
        self.assertEqual(self.label.paths(), sorted(TOLD))

    def test_paths_of_a_list_of_twelve(self):
        names = ("aa", "bb", "cc", "dd", "ee", "ff", "gg", "hh", "ii", "jj", "kk", "ll")
        label = Label(tuple((name, None, None) for name in names))
        self.assertEqual(label.paths(), [(at,) for at in range(12)])
        self.assertEqual([label.name_at((at,)) for at in range(12)], list(names))
        self.assertEqual(label.many_in(()), 12)

    def test_name_told_and_many_at_each(self):
        for path, (name, told, many) in TOLD.items():
            with self.subTest(path=path):
                self.assertEqual(self.label.name_at(path), name)
                self.assertEqual(self.label.told_at(path), told)
                self.assertEqual(self.label.many_in(path), many)

    def test_the_whole_list(self):
        self.assertEqual(self.label.many_in(()), 4)
        with self.assertRaises(NoPath):
            self.label.name_at(())
        with self.assertRaises(NoPath):
            self.label.told_at(())

    def test_no_paths(self):
        for thing in NO_PATHS:
            for ask in (self.label.name_at, self.label.told_at, self.label.many_in):
                with self.subTest(thing=thing, ask=ask.__name__):
                    with self.assertRaises(NoPath):
                        ask(thing)

    def test_a_refusal_changes_nothing(self):
        for thing in NO_PATHS:
            with self.assertRaises(NoPath):
                self.label.many_in(thing)
        self.assertEqual(self.label.paths(), list(TOLD))
        self.assertEqual(self.label, Label(PLACES, ["nut"]))

    def test_by_names(self):
        self.assertEqual(self.label.name_at(path=(1, 1)), "paste")
        self.assertEqual(self.label.told_at(path=(1,)), FIFTH)
        self.assertEqual(self.label.many_in(path=(1, 1)), 3)

    def test_the_same_asked_is_told_alike(self):
        other = Label(PLACES, ["nut"])
        for path in TOLD:
            self.assertEqual(self.label.told_at(path), self.label.told_at(path))
            self.assertEqual(self.label.name_at(path), other.name_at(path))


if __name__ == "__main__":
    unittest.main()
