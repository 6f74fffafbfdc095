"""Grids: numbers from 0 on that fill rows at the least cost, or a proof that there are none [17]."""

import unittest
from fractions import Fraction
from itertools import combinations
from random import Random
from unittest import mock

from samples import LETTERS, as_tuple, drawn_label, drawn_recipe

from stufflists.grids import Grid, least_corner
from stufflists.labels import Label
from stufflists.listing import label_of, making_of
from stufflists.makings import cost, is_making, mixed
from stufflists.papers import shown
from stufflists.rowtexts import read_row


def by(one, other):
    return sum((a * b for a, b in zip(one, other)), Fraction(0))


def asked(rows, wants, costs):
    """What is told of these Fractions, as Fractions."""
    told = least_corner([[as_tuple(one) for one in row] for row in rows], [as_tuple(want) for want in wants],
                        [as_tuple(one) for one in costs])
    return (told[0],) + tuple([Fraction(*one) for one in some] for some in told[1:])


def read(*rows):
    return [[Fraction(one) for one in row.split()] for row in rows]


class Grids(unittest.TestCase):
    def assertLeast(self, rows, wants, costs, least=None):
        """The numbers fill the rows, and the worths show that no others that do cost less."""
        word, numbers, worths = asked(rows, wants, costs)
        self.assertEqual(word, "least")
        self.assertEqual((len(numbers), len(worths)), (len(costs), len(rows)))
        self.assertTrue(all(number >= 0 for number in numbers))
        for row, want in zip(rows, wants):
            self.assertEqual(by(row, numbers), want)
        for column, price in enumerate(costs):
            self.assertLessEqual(by(worths, [row[column] for row in rows]), price)
        self.assertEqual(by(worths, wants), by(costs, numbers))
        if least is not None:
            self.assertEqual(by(costs, numbers), Fraction(least))
        return numbers

    def assertNever(self, rows, wants, costs):
        word, worths = asked(rows, wants, costs)
        self.assertEqual(word, "never")
        self.assertEqual(len(worths), len(rows))
        for column in range(len(costs)):
            self.assertLessEqual(by(worths, [row[column] for row in rows]), 0)
        self.assertGreater(by(worths, wants), 0)


class Least(Grids):
    def test_one_row(self):
        self.assertEqual(self.assertLeast(read("1 1"), *read("1", "2 3"), 2), [1, 0])
        self.assertEqual(self.assertLeast(read("1 1"), *read("1", "3 2"), 2), [0, 1])
        self.assertEqual(self.assertLeast(read("2 1"), *read("1", "3 2"), "3/2"), [Fraction(1, 2), 0])

    def test_costs_below_nought(self):
        self.assertLeast(read("1 1 1"), *read("5", "-1 -2 0"), -10)

    def test_wants_below_nought(self):
        self.assertLeast(read("-1 -1"), *read("-3", "2 1"), 3)

    def test_fractions(self):
        self.assertLeast(read("1/2 1/3 0", "1/5 0 1"), *read("1/7 3/4", "2/9 1/9 1"))

    def test_rows_that_say_the_same(self):
        self.assertLeast(read("1 1", "2 2", "1 1"), *read("1 2 1", "1 0"), 0)
        self.assertLeast(read("1 1", "1/2 1/2", "1 -1"), *read("1 1/2 0", "1 0"), "1/2")

    def test_rows_of_noughts(self):
        self.assertLeast(read("0 0", "1 1"), *read("0 1", "1 2"), 1)

    def test_no_rows(self):
        self.assertEqual(self.assertLeast([], [], *read("1 0 2"), 0), [0, 0, 0])

    def test_corners_in_which_many_meet(self):
        # By other ways than the first number that gains one would go round here for ever.
        rows = read("1 0 0 1/4 -8 -1 9", "0 1 0 1/2 -12 -1/2 3", "0 0 1 0 0 1 0")
        self.assertLeast(rows, *read("0 0 1", "0 0 0 -3/4 20 -1/2 6"), "-5/4")

    def test_no_corner_is_come_to_again(self):
        # Of alike rows by that of the last own number, or by that which stands first or last, one would go round for ever.
        for rows, costs in (
                (read("2 4 0 0 4 -2 1", "-2 0 -2 -3 0 -2 4", "1 2 4 4 -4 1 2", "1 1 1 1 1 1 1"), "0 2 -2 0 -2 -3 -4"),
                (read("-3 -4 -4 -3 3 0 0", "1 -1 4 3 3 4 -4", "2 -1 -2 -3 3 -1 2", "1 1 1 1 1 1 1"), "3 3 -1 4 -1 2 -3"),
                (read("-3 -4 -1 0 -3 1", "-2 -1 3 0 -2 3", "-4 1 0 -1 1 1", "1 1 1 1 1 1"), "-2 -3 2 3 -1 3"),
                (read("3 -2 3 -3 4 -2 -1", "3 -3 0 -4 -2 4 4", "-4 -4 -1 -4 0 -2 0", "1 1 1 1 1 1 1"), "2 0 1 -3 -2 4 1")):
            turns = []

            def counted(grid, at, column):
                turns.append(column)
                self.assertLess(len(turns), 100)
                turn_to(grid, at, column)

            turn_to = Grid.turn_to
            with mock.patch.object(Grid, "turn_to", counted):
                word = asked(rows, *read("0 0 0 1", costs))[0]
            (self.assertLeast if word == "least" else self.assertNever)(rows, *read("0 0 0 1", costs))

    def test_numbers_of_many_figures(self):
        big = Fraction(10 ** 20 - 1, 10 ** 19 + 7)
        self.assertLeast([[big, 1 / big, Fraction(1)], [Fraction(1), big, Fraction(0)]], [big * big, big],
                         [big, Fraction(1), 1 / big])

    def test_the_same_is_told_alike(self):
        rows, wants, costs = read("1 1 1", "1 -1 0"), *read("1 0", "1 1 1")
        self.assertEqual(asked(rows, wants, costs), asked(rows, wants, costs))


class Never(Grids):
    def test_rows_that_clash(self):
        self.assertNever(read("1 1", "1 1"), *read("1 2", "0 0"))
        self.assertNever(read("1 0", "0 1", "1 1"), *read("1/2 1/2 3/4", "1 1"))

    def test_numbers_below_nought_would_be_needed(self):
        self.assertNever(read("1 1"), *read("-1", "1 1"))
        self.assertNever(read("1 1", "1 0"), *read("1 2", "1 1"))

    def test_a_row_of_noughts(self):
        self.assertNever(read("0 0"), *read("1", "1 1"))
        self.assertNever(read("0 0"), *read("-1/3", "1 1"))
        self.assertNever(read("1 0", "0 0"), *read("1 -1", "1 1"))


class Drawn(Grids):
    def corners(self, rows, wants, many):
        """All numbers from 0 on that fill the rows, and of which only as many as there are rows are not 0."""
        for columns in combinations(range(many), len(rows)):
            grid = [[row[column] for column in columns] + [want] for row, want in zip(rows, wants)]
            found = self.solved(grid)
            if found is not None and min(found) >= 0:
                numbers = [Fraction(0)] * many
                for column, number in zip(columns, found):
                    numbers[column] = number
                yield numbers

    def solved(self, grid):
        many = len(grid)
        for at in range(many):
            row = next((k for k in range(at, many) if grid[k][at] != 0), None)
            if row is None:
                return None
            grid[at], grid[row] = grid[row], grid[at]
            grid[at] = [one / grid[at][at] for one in grid[at]]
            for other in range(many):
                if other != at:
                    often = grid[other][at]
                    grid[other] = [a - often * b for a, b in zip(grid[other], grid[at])]
        return [row[-1] for row in grid]

    def drawn(self, rng, most):
        return Fraction(rng.randint(-most, most), rng.choice((1, 1, 2, 3))) if rng.random() < 0.7 else Fraction(0)

    def test_against_all_corners(self):
        words = {"least": 0, "never": 0}
        for seed in range(300):
            rng = Random(seed)
            many, deep = rng.randint(2, 6), rng.randint(1, 3)
            # The last row bounds all numbers, so that there is a least.
            rows = [[self.drawn(rng, 3) for _ in range(many)] for _ in range(deep - 1)] + [[Fraction(1)] * many]
            wants = [self.drawn(rng, 3) for _ in range(deep - 1)] + [Fraction(4)]
            costs = [self.drawn(rng, 4) for _ in range(many)]
            word = asked(rows, wants, costs)[0]
            words[word] += 1
            found = [by(costs, numbers) for numbers in self.corners(rows, wants, many)]
            if word == "never":
                self.assertEqual(found, [])
                self.assertNever(rows, wants, costs)
            elif found:
                self.assertLeast(rows, wants, costs, min(found))
            else:
                self.assertLeast(rows, wants, costs)
        self.assertGreater(min(words.values()), 50)

    def test_rows_said_twice(self):
        for seed in range(150):
            rng = Random(seed)
            rows = [[self.drawn(rng, 3) for _ in range(5)] for _ in range(2)] + [[Fraction(1)] * 5]
            numbers = [Fraction(rng.randint(0, 3), 2) for _ in range(5)]
            rows += [[a + b for a, b in zip(rows[0], rows[1])], [3 * a for a in rows[2]]]
            self.assertLeast(rows, [by(row, numbers) for row in rows], [self.drawn(rng, 4) for _ in range(5)])


class OfLabels(Grids):
    """What the grid is for: of a label's makings the one that costs least, and a paper that shows just that."""

    def rows_of(self, label):
        """A number for each path, by how much more it is than the next; further ones by which told ends are left."""
        paths = label.paths()
        told = [path for path in paths if label.told_at(path) is not None]
        rows, wants, names = [], [], []
        for holder in [()] + [path for path in paths if label.many_in(path) > 0]:
            row = []
            for path in paths:
                one = Fraction(path[-1] + 1 if path[:-1] == holder else 0)
                row.append(one - (1 if self.is_from(holder, path) else 0))
            rows.append(row + [Fraction(0)] * 2 * len(told))
            wants.append(Fraction(1 if holder == () else 0))
            names.append((0, holder))
        for end in range(2):
            for at, path in enumerate(told):
                rests = [Fraction(0)] * 2 * len(told)
                rests[2 * at + end] = Fraction(2 * end - 1)
                rows.append([Fraction(self.is_from(path, other)) for other in paths] + rests)
                wants.append(Fraction(*label.told_at(path)[end]))
                names.append((1 + end, path))
        return rows, wants, names

    def is_from(self, path, other):
        """Whether the other path is this one, or that of a later place of its LIST."""
        return path != () and len(path) == len(other) and path[:-1] == other[:-1] and path[-1] <= other[-1]

    def least(self, label, prices):
        rows, wants, names = self.rows_of(label)
        paths = label.paths()
        costs = [sum((Fraction(*prices.get(path, (0, 1))) for path in paths if self.is_from(path, other)), Fraction(0))
                 for other in paths] + [Fraction(0)] * (len(rows[0]) - len(paths))
        word, *told = asked(rows, wants, costs)
        paper = ({}, {}, {})
        for (at, path), worth in zip(names, told[-1]):
            paper[at][path] = as_tuple(-worth if at == 2 else worth)
        if word == "never":
            return word, paper
        making = {path: as_tuple(sum((number for other, number in zip(paths, told[0]) if self.is_from(path, other)),
                                     Fraction(0))) for path in paths}
        return word, making, paper

    def prices(self, rng, label):
        return {path: as_tuple(Fraction(rng.randint(-3, 3), rng.choice((1, 2, 7))))
                for path in label.paths() if rng.random() < 0.6}

    def assertJudged(self, label, prices):
        word, *told = self.least(label, prices)
        if word == "never":
            self.assertGreater(Fraction(*shown(label, {}, told[0])), 0)
        else:
            self.assertIs(is_making(label, told[0]), True)
            self.assertEqual(cost(label, prices, told[0]), shown(label, prices, told[1]))
        return word

    def test_drawn_labels(self):
        words = []
        for seed in range(250):
            rng = Random(seed)
            label = drawn_label(seed, rng.choice((0.1, 0.4, 0.9)))
            words.append(self.assertJudged(label, self.prices(rng, label)))
        self.assertGreater(words.count("least"), 50)
        self.assertGreater(words.count("never"), 50)

    def test_labels_of_recipes(self):
        for seed in range(120):
            rng = Random(seed)
            recipe = drawn_recipe(seed)
            label = label_of(recipe, list(LETTERS[:3]) + ["water"], rng.choice((0, 2, 7, 100)))
            prices = self.prices(rng, label)
            word, making, paper = self.least(label, prices)
            own = making_of(recipe)
            between = mixed(making, own, (1, 3))
            self.assertIs(is_making(label, between), True)
            self.assertLessEqual(Fraction(*shown(label, prices, paper)), Fraction(*cost(label, prices, own)))
            self.assertLessEqual(Fraction(*shown(label, prices, paper)), Fraction(*cost(label, prices, between)))

    def test_the_example(self):
        label = read_row("flour 2/5, choc 1/5 to 1/4 (sugar, cocoa 1/10 to 1), water; may hold egg, nut")
        self.assertEqual(self.assertJudged(label, {(2,): (1, 1)}), "never")
        label = read_row("flour 2/5 to 1/2, choc 1/5 to 1/3 (sugar, cocoa 1/10 to 1), water")
        self.assertEqual(self.assertJudged(label, {(2,): (1, 1)}), "least")
        self.assertEqual(cost(label, {(2,): (1, 1)}, self.least(label, {(2,): (1, 1)})[1]), (1, 6))

    def test_twelve_places_all_told(self):
        places = tuple((name, ((0, 1), as_tuple(Fraction(1, 6 + at))), None) for at, name in enumerate(LETTERS[:12]))
        self.assertEqual(self.assertJudged(Label(places), {(11,): (1, 1), (0,): (-1, 3)}), "least")


if __name__ == "__main__":
    unittest.main()
