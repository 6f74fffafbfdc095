"""The classes of stufflists.errors, as the interface lists them."""

import unittest

from stufflists import errors

TEXT_MADE = {
    "StuffError": ValueError,
    "NoFraction": errors.StuffError,
    "TooMany": errors.StuffError,
    "NoPath": errors.StuffError,
    "NoStretch": errors.StuffError,
    "NoDepth": errors.StuffError,
    "NoCooked": errors.StuffError,
    "NoNear": errors.StuffError,
    "NoPrices": errors.StuffError,
    "NoMaking": errors.StuffError,
    "NoPaper": errors.StuffError,
    "NoClash": errors.StuffError,
    "NoKinds": errors.StuffError,
    "NoLimit": errors.StuffError,
    "NoWish": errors.StuffError,
    "TextError": errors.StuffError,
    "NoRow": errors.TextError,
    "NoDeed": errors.TextError,
    "HouseError": LookupError,
}

PAPER = ({(): (1, 2)}, {(0,): (1, 3)}, {(1, 0): (0, 1)})

VALUE_MADE = {
    "NoPlace": (errors.StuffError, "path", (0, 2)),
    "NoName": (errors.StuffError, "number", -1),
    "NoPart": (errors.StuffError, "number", 3),
    "Never": (errors.StuffError, "paper", PAPER),
    "NoLine": (errors.TextError, "line", 4),
    "NoWare": (errors.HouseError, "name", "choc"),
    "Ring": (errors.HouseError, "names", ["choc", "paste"]),
}


class MadeOfText(unittest.TestCase):
    def test_each_stands_directly_under_its_class(self):
        for name, above in TEXT_MADE.items():
            with self.subTest(name=name):
                self.assertEqual(getattr(errors, name).__bases__, (above,))

    def test_each_is_made_of_a_text(self):
        for name in TEXT_MADE:
            with self.subTest(name=name):
                self.assertEqual(str(getattr(errors, name)("so it is")), "so it is")


class MadeOfAValue(unittest.TestCase):
    def test_each_stands_directly_under_its_class(self):
        for name, (above, _, _) in VALUE_MADE.items():
            with self.subTest(name=name):
                self.assertEqual(getattr(errors, name).__bases__, (above,))

    def test_each_has_its_value_by_place_and_by_name(self):
        for name, (_, attribute, value) in VALUE_MADE.items():
            with self.subTest(name=name):
                made = getattr(errors, name)
                self.assertEqual(getattr(made(value), attribute), value)
                self.assertEqual(getattr(made(**{attribute: value}), attribute), value)

    def test_each_has_a_message(self):
        for name, (_, _, value) in VALUE_MADE.items():
            with self.subTest(name=name):
                self.assertIn(" ", str(getattr(errors, name)(value)))

    def test_no_ware_has_the_thing_asked_whatever_it_is(self):
        for thing in (None, 7, ["a"], ("a", 1), {"a": 1}, "", 10 ** 5000):
            self.assertEqual(errors.NoWare(thing).name, thing)
            self.assertNotEqual(str(errors.NoWare(thing)), "")

    def test_kinds_of_values_are_kept(self):
        self.assertIs(type(errors.Ring(["a"]).names), list)
        self.assertIs(type(errors.Never(PAPER).paper), tuple)
        self.assertIs(type(errors.NoPlace(()).path), tuple)


class LaterChanges(unittest.TestCase):
    def test_a_ring_keeps_its_names(self):
        names = ["a", "b"]
        ring = errors.Ring(names)
        names.append("c")
        self.assertEqual(ring.names, ["a", "b"])

    def test_never_keeps_its_paper(self):
        paper = ({(): (1, 2)}, {}, {})
        never = errors.Never(paper)
        paper[0][()] = (2, 1)
        paper[1][(0,)] = (1, 1)
        self.assertEqual(never.paper, ({(): (1, 2)}, {}, {}))

    def test_what_is_done_to_the_value_leaves_what_was_handed_in(self):
        paper = ({(): (1, 2)}, {}, {})
        errors.Never(paper).paper[0].clear()
        self.assertEqual(paper, ({(): (1, 2)}, {}, {}))


class Apart(unittest.TestCase):
    def test_each_stands_under_no_class_but_those_told(self):
        above = dict(TEXT_MADE)
        above.update({name: row[0] for name, row in VALUE_MADE.items()})
        for name in above:
            for other in above:
                with self.subTest(name=name, other=other):
                    told = name == other or self.is_under(above, name, getattr(errors, other))
                    self.assertEqual(issubclass(getattr(errors, name), getattr(errors, other)), told)

    def is_under(self, above, name, other):
        step = above[name]
        while step.__name__ in above and step != other:
            step = above[step.__name__]
        return step == other


if __name__ == "__main__":
    unittest.main()
