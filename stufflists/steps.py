"""A label in STEPS: what a grid is asked, so that its numbers are a making and its worths a paper [14, 16, 17].

The step at a path is by how much the share there is more than that of the next place of its LIST. Steps from 0 on are
shares that fall; a share is its own step and those behind it together. Behind the steps come the RESTS, one for each
told end that binds: how far the share is from that end.
"""

from stufflists.fractions import minus, total
from stufflists.labels import holders, paths_in

LEAST = 0
MOST = 1


def is_from(path, other):
    """Whether the other path is this one, or stands behind it in its LIST."""
    return path[:-1] == other[:-1] and path[-1] <= other[-1]


def ends_of(label):
    """Tuples (path, end) of the told ends that bind."""
    found = []
    for path in label.paths():
        told = label.told_at(path)
        # No share is below 0 or above 1 anyway.
        if told is not None and told[LEAST] != (0, 1):
            found.append((path, LEAST))
        if told is not None and told[MOST] != (1, 1):
            found.append((path, MOST))
    return found


def sum_row(label, paths):
    """How often each step is in the shares of these paths together."""
    return [len([path for path in paths if is_from(path, step)]) for step in label.paths()]


def list_row(label, holder):
    """The shares of a LIST, less that of the place that holds it, in steps."""
    inside = sum_row(label, paths_in(label, holder))
    if holder == ():
        return inside
    return [one - other for one, other in zip(inside, sum_row(label, [holder]))]


def rest_row(ends, at):
    """The rests beside the share of the told end of this number: it is above a least, below a most."""
    rests = [0] * len(ends)
    rests[at] = -1 if ends[at][1] == LEAST else 1
    return rests


def many_numbers(label):
    """How many steps and rests a label has."""
    return len(label) + len(ends_of(label))


def rows_of(label):
    """The rows by whole numbers, one for each LIST, then one for each told end that binds."""
    ends = ends_of(label)
    made = [list_row(label, holder) + [0] * len(ends) for holder in holders(label)]
    for at, (path, end) in enumerate(ends):
        made.append(sum_row(label, [path]) + rest_row(ends, at))
    return made


def wants_of(label):
    """What these rows must come to, as FRACTIONS."""
    lists = [(1, 1) if holder == () else (0, 1) for holder in holders(label)]
    return lists + [label.told_at(path)[end] for path, end in ends_of(label)]


def costs_of(label, prices):
    """What steps and rests cost by these prices: a step what all shares cost that it is in."""
    steps = []
    for step in label.paths():
        steps.append(total([price for path, price in prices.items() if is_from(path, step)]))
    return steps + [(0, 1)] * len(ends_of(label))


def making_by(label, numbers):
    """The shares of all places, by their steps; what stands behind the steps is not looked at."""
    steps = list(zip(label.paths(), numbers))
    return {path: total([number for step, number in steps if is_from(path, step)]) for path in label.paths()}


def paper_by(label, worths):
    """The PAPER that the worths of the rows are; what has 0 is left out."""
    lists, bounds = {}, ({}, {})
    inner = holders(label)
    for holder, worth in zip(inner, worths):
        if worth != (0, 1):
            lists[holder] = worth
    for (path, end), worth in zip(ends_of(label), worths[len(inner):]):
        if worth != (0, 1):
            bound = bounds[end]
            # A share's rest below a most makes the worth of that row 0 or less.
            bound[path] = worth if end == LEAST else minus((0, 1), worth)
    return (lists, bounds[LEAST], bounds[MOST])


def in_fractions(rows):
    """Rows of whole numbers as rows of FRACTIONS."""
    return [[(number, 1) for number in row] for row in rows]
