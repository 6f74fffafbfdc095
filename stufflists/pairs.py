"""Whether two labels can be of ONE making [20]."""

from stufflists.fractions import minus, total
from stufflists.grids import least_corner
from stufflists.makings import check_making
from stufflists.steps import in_fractions, making_by, many_numbers, paper_by, rows_of, sum_row, wants_of


def plain_paths(label):
    """The paths of the plain places."""
    return [path for path in label.paths() if label.many_in(path) == 0]


def paths_of(label, stuff):
    """The paths of the plain places that have this name."""
    return [path for path in plain_paths(label) if label.name_at(path) == stuff]


def stuffs_of(label):
    """The STUFFS of a label, sorted."""
    return sorted({label.name_at(path) for path in plain_paths(label)})


def amounts(label, making):
    """The AMOUNTS of the label's stuffs by a making."""
    check_making(label, making)
    return {stuff: total([making[path] for path in paths_of(label, stuff)]) for stuff in stuffs_of(label)}


def amount_row(label, stuff):
    """The amount of a stuff in steps, and the rests, which have no part in it."""
    steps = sum_row(label, paths_of(label, stuff))
    return steps + [0] * (many_numbers(label) - len(steps))


def side_by_side(one, other, stuffs):
    """The rows of both labels, then one for each stuff: its amount in the one less that in the other."""
    made = [row + [0] * many_numbers(other) for row in rows_of(one)]
    made.extend([[0] * many_numbers(one) + row for row in rows_of(other)])
    for stuff in stuffs:
        made.append(amount_row(one, stuff) + [-number for number in amount_row(other, stuff)])
    return made


def one_making(one, other):
    """Makings of both labels by which they are of ONE making, or prices and papers that show that they never are."""
    stuffs = sorted(set(stuffs_of(one) + stuffs_of(other)))
    rows = side_by_side(one, other, stuffs)
    wants = wants_of(one) + wants_of(other) + [(0, 1)] * len(stuffs)
    many = many_numbers(one)
    told = least_corner(in_fractions(rows), wants, [(0, 1)] * (many + many_numbers(other)))
    if told[0] == "least":
        return ("one", making_by(one, told[1]), making_by(other, told[1][many:]))
    worths = told[1]
    first, second = len(wants_of(one)), len(wants_of(other))
    # By the worths the one label's rows and those of the stuffs come in no column to more than 0 together: its own
    # come to no more than the stuffs' worths turned, the prices; the other label's to no more than the prices turned.
    prices = {stuff: minus((0, 1), worth) for stuff, worth in zip(stuffs, worths[first + second:])}
    return ("never", prices, paper_by(one, worths), paper_by(other, worths[first:]))
