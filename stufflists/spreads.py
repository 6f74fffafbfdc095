"""The SHARE of some names in a making, and their SPREAD in a label [18]."""

from stufflists.errors import Never
from stufflists.fractions import minus, total
from stufflists.labels import check_names
from stufflists.leasts import least
from stufflists.makings import check_making


def counted_paths(label, names):
    """The paths of the places that have one of the names and around which no place has."""
    found = []
    for path in label.paths():
        around = [label.name_at(path[:deep]) for deep in range(1, len(path))]
        if label.name_at(path) in names and not any([name in names for name in around]):
            found.append(path)
    return found


def priced(label, names, price):
    """The PRICES by which just the places that count for these names have this price."""
    return {path: price for path in counted_paths(label, names)}


def share_of(label, names, making):
    """The SHARE of some names in a making of the label."""
    check_names(names)
    check_making(label, making)
    return total([making[path] for path in counted_paths(label, names)])


def spread(label, names):
    """The SPREAD of some names in a label."""
    check_names(names)
    low = least(label, priced(label, names, (1, 1)))
    if low[0] == "never":
        raise Never(low[1])
    high = least(label, priced(label, names, (-1, 1)))
    return (low[1], minus((0, 1), high[1]), (low[2], high[2]), (low[3], high[3]))
