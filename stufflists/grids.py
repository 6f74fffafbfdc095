"""GRIDS of whole numbers, in which one goes from corner to corner down to the least cost [17].

Numbers from 0 on are looked for that fill some rows, at the least cost. A corner is where as many of them as there
are rows stand alone, and all others are 0; these few are the corner's own.
"""

from stufflists.fractions import common_measure, fraction, plus, times


def in_whole_numbers(some):
    """These FRACTIONS times the least number by which all of them become whole, and that number."""
    scale = 1
    for top, bottom in some:
        scale = scale // common_measure(scale, bottom) * bottom
    return [top * (scale // bottom) for top, bottom in some], scale


def turned(numbers):
    """The negatives of these numbers."""
    return [-number for number in numbers]


class Grid:
    """Rows of whole numbers, each with a number of its own that no other row has.

    A row has a number for each of those that are looked for, one for each row that there was at first, by which
    it is known how the rows were mixed, and what it must come to. All are times the unit. The aims are such rows,
    too, of what is to become less.
    """

    def __init__(self, rows, aims, many):
        self.many = many
        self.rows = rows
        self.aims = aims
        self.own = [many + at for at in range(len(rows))]
        self.unit = 1

    def cleared(self, row, chosen, column):
        """The row with the chosen one taken off it so often that nothing is left of it in the column."""
        by, often = chosen[column], row[column]
        # Divided by the unit no rest is left: all are determinants of what stood in the grid at first.
        return [(number * by - often * taken) // self.unit for number, taken in zip(row, chosen)]

    def turn_to(self, at, column):
        """Go to the corner in which this row has the column's number as its own."""
        chosen = self.rows[at] if self.rows[at][column] > 0 else turned(self.rows[at])
        rows = [self.cleared(row, chosen, column) for row in self.rows]
        aims = [self.cleared(row, chosen, column) for row in self.aims]
        rows[at] = chosen
        self.rows = rows
        self.aims = aims
        self.own[at] = column
        self.unit = chosen[column]

    def first_gain(self, aim):
        """The first column by which the aim becomes less, or None."""
        for column in range(self.many):
            if self.aims[aim][column] < 0:
                return column
        return None

    def first_bound(self, column):
        """The row that first bounds the column's number as it grows, of alike ones that of the first own number."""
        found = None
        for at, row in enumerate(self.rows):
            if row[column] > 0 and (found is None or self.is_ahead(at, found, column)):
                found = at
        return found

    def is_ahead(self, at, other, column):
        """Whether the one row bounds the column's number ahead of the other."""
        one, two = self.rows[at], self.rows[other]
        early, late = one[-1] * two[column], two[-1] * one[column]
        return early < late or (early == late and self.own[at] < self.own[other])

    def go_down(self, aim):
        """Go to a corner where the aim is least."""
        # By the first column that gains, and the first own number, no corner is come to twice.
        column = self.first_gain(aim)
        while column is not None:
            at = self.first_bound(column)
            assert at is not None, "the aim has no least"
            self.turn_to(at, column)
            column = self.first_gain(aim)

    def clear_own(self):
        """Where a row's own number is none that is looked for, give it one, if the row has any."""
        deep = len(self.rows)
        for at in range(deep):
            columns = [column for column in range(self.many) if self.rows[at][column] != 0]
            if self.own[at] >= self.many and len(columns) > 0:
                self.turn_to(at, columns[0])

    def numbers(self):
        """The numbers that are looked for, as FRACTIONS, at this corner."""
        found = [(0, 1)] * self.many
        for row, column in zip(self.rows, self.own):
            if column < self.many:
                found[column] = fraction(row[-1], self.unit)
        return found

    def mixing(self, aim):
        """How often each row that there was at first is taken off the aim, as FRACTIONS."""
        return [fraction(-number, self.unit) for number in self.aims[aim][self.many:-1]]


def first_rows(rows, wants):
    """The rows of a grid, none of which must come to less than 0, and the number by which each was multiplied.

    rows are lists of FRACTIONS, wants whole numbers.
    """
    made, scales = [], []
    for at, row in enumerate(rows):
        numbers, scale = in_whole_numbers(row)
        if wants[at] < 0:
            numbers, scale = turned(numbers), -scale
        known = [1 if at == other else 0 for other in range(len(rows))]
        made.append(numbers + known + [wants[at] * scale])
        scales.append(scale)
    return made, scales


def lacking(rows, many):
    """The aim to fill all rows: what they lack together."""
    columns = [-sum([row[column] for row in rows]) for column in range(many)]
    return columns + [0] * len(rows) + [-sum([row[-1] for row in rows])]


def least_corner(rows, wants, costs):
    """The numbers from 0 on that fill the rows at the least cost, or that there are none.

    rows are lists of FRACTIONS, one for each number, wants what each row by the numbers must add up to, costs what
    the numbers cost; that has a least, where rows can be filled. Told is ("least", numbers, worths): the worths, one
    for each row, by the rows come in no column to more than its cost, and by the wants to what the numbers cost. Or
    ("never", worths): these by the rows come in no column to more than 0, but by the wants to more than 0.
    """
    # All wants are multiplied alike, and not each with its row: of many figures, they would make all numbers long.
    fills, wanted = in_whole_numbers(wants)
    made, scales = first_rows(rows, fills)
    prices, scale = in_whole_numbers(costs)
    many = len(costs)
    grid = Grid(made, [lacking(made, many), prices + [0] * (len(rows) + 1)], many)
    grid.go_down(0)
    if grid.aims[0][-1] != 0:
        # Each row was taken off once ahead of the first step: what it lacks is what it must come to, less itself.
        return ("never", [times(plus((1, 1), often), (by, 1)) for often, by in zip(grid.mixing(0), scales)])
    grid.clear_own()
    grid.go_down(1)
    numbers = [times(number, (1, wanted)) for number in grid.numbers()]
    return ("least", numbers, [times(often, fraction(by, scale)) for often, by in zip(grid.mixing(1), scales)])
