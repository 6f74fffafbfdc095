"""The clash of a label without makings: told shares of which none can be spared [19]."""

import unittest
from fractions import Fraction
from itertools import combinations
from random import Random

from judging import Judging, is_made
from samples import as_tuple, bare_label, drawn_label, drawn_making, shaken_label, told_label

from stufflists.clashes import clash
from stufflists.errors import NoClash, StuffError
from stufflists.labels import retold
from stufflists.leasts import least
from stufflists.rowtexts import read_row


class Clashes(Judging):
    def assertClash(self, label):
        told = clash(label)
        self.assertIsInstance(told, tuple)
        paths, paper, makings = told
        self.assertIs(type(paths), list)
        self.assertEqual(paths, sorted(set(paths)))
        self.assertGreater(len(paths), 0)
        for path in paths:
            self.assertIsNotNone(label.told_at(path))
        self.assertShowsNever(label, paper)
        self.assertLessEqual(set(paper[1]) | set(paper[2]), set(paths))
        self.assertIs(type(makings), dict)
        self.assertEqual(sorted(makings), paths)
        for path, making in makings.items():
            others = {other: label.told_at(other) for other in paths if other != path}
            self.assertMaking(retold(label, others), making)
            self.assertFalse(is_made(retold(label, {**others, path: label.told_at(path)}), making))
        return paths

    def assertNoClash(self, label):
        with self.assertRaises(NoClash) as caught:
            clash(label)
        self.assertIsInstance(caught.exception, StuffError)


class Written(Clashes):
    def test_by_one_told_share(self):
        for row, path in (("salt 0", (0,)), ("salt 0 to 99/100", (0,)), ("a, b 51/100 to 1", (1,)),
                          ("a 0 to 49/100, b", (0,)), ("a, b, c 2/5", (2,)), ("a (b, c 51/100), d", (0, 1)),
                          ("a, b (c (d (e 3/5)))", (1, 0, 0, 0)), ("a 1/5 (b), c", (0,))):
            self.assertEqual(self.assertClash(read_row(row)), [path])

    def test_by_two(self):
        for row, paths in (("a 3/5 to 4/5, b 1/2", [(0,), (1,)]),
                           ("a 2/3, b 1/4", [(0,), (1,)]), ("a 2/3 to 1, b, c 1/5 to 1/4", [(0,), (2,)]),
                           ("a 3/5 (b 1/4, c), d", [(0,), (0, 0)]), ("a (b (c 3/4)), d 3/10 to 1/2", [(0, 0, 0), (1,)])):
            self.assertEqual(self.assertClash(read_row(row)), paths)

    def test_by_more(self):
        for row, paths in (("a 1/2, b 1/4, c 1/5", [(0,), (1,), (2,)]),
                           ("a 2/5, b 3/10, c 1/5, d 1/20", [(0,), (1,), (2,), (3,)]),
                           ("a 1/2 (b 1/5, c 1/5, d 1/20), e, f", [(0,), (0, 0), (0, 2)]),
                           ("a 1/2 (b 1/5, c 3/20, d 1/10), e, f", [(0,), (0, 0), (0, 1), (0, 2)]),
                           ("a (b 1/2, c 1/10), d 3/10, e 1/5", [(0, 0), (0, 1), (1,), (2,)])):
            self.assertEqual(self.assertClash(read_row(row)), paths)

    def test_told_shares_that_have_no_part_in_it(self):
        self.assertEqual(self.assertClash(read_row("a 1/2 to 1, b 1/10 to 1/2, c 2/5 to 1/2, d 0 to 1")), [(2,)])
        self.assertEqual(self.assertClash(read_row("a 3/5 (b 3/10 to 1, c 0 to 1), d 1/2 (e 0 to 1/2)")), [(0,), (1,)])

    def test_of_several_clashes_one(self):
        found = self.assertClash(read_row("a 1/10, b 9/10, c 1/2"))
        self.assertEqual(len(found), 1)

    def test_no_clash(self):
        for row in ("salt", "salt 1", "a, b", "a 1/2, b 1/2", "a 2/3, b 1/3", "a (b 1/4, c 1/4), d 1/2",
                    "flour 2/5 to 1/2, choc 1/5 to 1/3 (sugar, cocoa 1/10 to 1), water"):
            self.assertNoClash(read_row(row))

    def test_arguments_by_their_names(self):
        label = read_row("a 2/3, b 1/4")
        self.assertEqual(clash(label=label), clash(label))


class Drawn(Clashes):
    def test_drawn_labels(self):
        sizes = {}
        for seed in range(400):
            rng = Random(seed)
            label = drawn_label(seed) if seed % 4 == 0 else shaken_label(rng, Fraction(rng.choice((0, 1, 4)), 20))
            if least(label, {})[0] == "least":
                self.assertNoClash(label)
                size = 0
            else:
                size = len(self.assertClash(label))
            sizes[size] = sizes.get(size, 0) + 1
        self.assertGreater(sizes[0], 20)
        self.assertGreater(sizes[1], 20)
        self.assertGreater(sizes[2], 20)
        self.assertGreater(sum(many for size, many in sizes.items() if size > 2), 20)

    def test_one_share_moved_off(self):
        """All shares told as they are, but one: what clashes has that one in it."""
        for seed in range(80):
            rng = Random(seed)
            label = bare_label(rng)
            making = drawn_making(rng, label)
            told = {path: (share, share) for path, share in making.items()}
            path = rng.choice(label.paths())
            moved = min(Fraction(1), Fraction(*making[path]) + Fraction(1, 7))
            if as_tuple(moved) != making[path]:
                told[path] = (as_tuple(moved), as_tuple(moved))
                self.assertIn(path, self.assertClash(retold(label, told)))

    def test_labels_with_a_making(self):
        for seed in range(100):
            self.assertNoClash(told_label(Random(seed), 0.7)[0])

    def test_no_fewer_of_these_clash(self):
        for seed in range(60):
            rng = Random(seed)
            label = shaken_label(rng, Fraction(1, 20))
            if least(label, {})[0] == "never":
                paths = self.assertClash(label)
                for some in combinations(paths, len(paths) - 1):
                    self.assertNoClash(retold(label, {path: label.told_at(path) for path in some}))
                self.assertClash(retold(label, {path: label.told_at(path) for path in paths}))


class LaterChanges(Clashes):
    def test_answers_are_the_askers_own(self):
        for row in ("salt 0", "a 2/3, b 1/4", "a 1/2 (b 1/5, c 3/20, d 1/10), e, f"):
            label = read_row(row)
            self.assertOwn(lambda: clash(label))
            self.assertEqual(str(label), row)


if __name__ == "__main__":
    unittest.main()
