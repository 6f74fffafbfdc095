"""Labels retold [8]."""

import unittest
from collections import defaultdict

from stufflists.errors import NoStretch, StuffError
from stufflists.labels import Label, retold

FIFTH = ((1, 5), (1, 4))
HALF = ((1, 2), (1, 2))
WHOLE = ((0, 1), (1, 1))
PLACES = (
    ("flour", HALF, None),
    ("choc", FIFTH, (("sugar", None, None), ("paste", FIFTH, (("cocoa", None, None),)))),
    ("water", None, None),
)


def bare(flour=None, choc=None, sugar=None, paste=None, cocoa=None, water=None):
    """PLACES, but with this told alone."""
    inner = (("sugar", sugar, None), ("paste", paste, (("cocoa", cocoa, None),)))
    return (("flour", flour, None), ("choc", choc, inner), ("water", water, None))


class Retold(unittest.TestCase):
    def setUp(self):
        self.label = Label(PLACES, ["nut", "egg"])

    def assertRetold(self, told, places):
        made = retold(self.label, told)
        self.assertIsInstance(made, Label)
        self.assertEqual(made.places(), places)
        self.assertEqual(made.may(), ["egg", "nut"])
        self.assertEqual(made, Label(places, ["egg", "nut"]))
        self.assertEqual(self.label, Label(PLACES, ["nut", "egg"]))

    def assertRefused(self, told):
        with self.assertRaises(NoStretch) as caught:
            retold(self.label, told)
        self.assertIsInstance(caught.exception, StuffError)
        self.assertEqual(self.label, Label(PLACES, ["nut", "egg"]))

    def test_by_none(self):
        self.assertRetold({}, bare())

    def test_by_some(self):
        self.assertRetold({(0,): HALF}, bare(flour=HALF))
        self.assertRetold({(2,): WHOLE}, bare(water=WHOLE))
        self.assertRetold({(1, 1, 0): WHOLE, (1,): HALF}, bare(choc=HALF, cocoa=WHOLE))
        self.assertRetold({(1, 0): WHOLE}, bare(sugar=WHOLE))

    def test_by_all(self):
        told = {path: WHOLE for path in self.label.paths()}
        self.assertRetold(told, bare(WHOLE, WHOLE, WHOLE, WHOLE, WHOLE, WHOLE))

    def test_by_what_it_told(self):
        told = {path: self.label.told_at(path) for path in self.label.paths() if self.label.told_at(path) is not None}
        self.assertRetold(told, PLACES)

    def test_by_names(self):
        self.assertEqual(retold(told={(0,): HALF}, label=self.label).places(), bare(flour=HALF))

    def test_a_label_without_words(self):
        self.assertEqual(retold(Label(PLACES), {}), Label(bare()))

    def test_no_dict(self):
        for thing in (None, [], (), [((0,), HALF)], (((0,), HALF),), "told", "", 0, 1, True, {(0,)}, object(), HALF):
            self.assertRefused(thing)

    def test_keys_that_are_no_paths(self):
        for key in ((), (3,), (-1,), (0, 0), (1, 2), (1, 1, 0, 0), (1, 1, 1), "flour", "", 0, 1, None, ((0,),),
                    ("0",), b"0", frozenset(), object()):
            with self.subTest(key=key):
                self.assertRefused({key: HALF})
                self.assertRefused({(0,): HALF, key: HALF})
                self.assertRefused({key: HALF, (0,): HALF})

    def test_values_that_are_no_stretches(self):
        for value in (None, (), (1, 2), ((1, 2),), [(0, 1), (1, 1)], ((1, 2), (1, 3)), ((-1, 2), (1, 2)),
                      ((1, 2), (3, 2)), ((2, 4), (1, 1)), "1/2", 0, True, ((0, 1), (True, 1)), {}):
            with self.subTest(value=value):
                self.assertRefused({(0,): value})
                self.assertRefused({(0,): HALF, (1, 0): value})
                self.assertRefused({(2,): value, (0,): HALF})

    def test_what_is_handed_in_stays_as_it_was(self):
        told = {(0,): HALF, (1, 0): WHOLE}
        retold(self.label, told)
        self.assertEqual(told, {(0,): HALF, (1, 0): WHOLE})
        filling = defaultdict(lambda: WHOLE, told)
        self.assertEqual(retold(self.label, filling).places(), bare(flour=HALF, sugar=WHOLE))
        self.assertEqual(filling, told)

    def test_what_is_done_later_changes_nothing(self):
        told = {(0,): HALF}
        made = retold(self.label, told)
        told[(0,)] = WHOLE
        told[(2,)] = WHOLE
        self.assertEqual(made.places(), bare(flour=HALF))
        self.assertEqual(made.told_at((2,)), None)


if __name__ == "__main__":
    unittest.main()
