"""MAKINGS of a label, and what they COST by PRICES [14, 15]."""

from stufflists.errors import NoMaking, NoPrices
from stufflists.fractions import is_fraction, is_from_nought, is_less, minus, plus, times, total
from stufflists.labels import holders, paths_in


def has_shares(label, thing):
    """Whether the thing, whatever it is, is a dict from just the label's paths to FRACTIONS from 0 on."""
    if not isinstance(thing, dict) or len(thing) != len(label):
        return False
    return all([label.has_path(path) and is_from_nought(share) for path, share in thing.items()])


def is_filled_by(label, shares):
    """Whether the shares in each LIST add up to what holds it."""
    for holder in holders(label):
        whole = (1, 1) if holder == () else shares[holder]
        if total([shares[path] for path in paths_in(label, holder)]) != whole:
            return False
    return True


def is_falling(label, shares):
    """Whether in no LIST a share is greater than the one ahead of it."""
    for holder in holders(label):
        paths = paths_in(label, holder)
        for ahead, path in zip(paths, paths[1:]):
            if is_less(shares[ahead], shares[path]):
                return False
    return True


def is_as_told(label, shares):
    """Whether each told share lies in its STRETCH."""
    for path in label.paths():
        told = label.told_at(path)
        if told is not None and (is_less(shares[path], told[0]) or is_less(told[1], shares[path])):
            return False
    return True


def is_making(label, thing):
    """Whether the thing, whatever it is, is a MAKING of the label."""
    if not has_shares(label, thing):
        return False
    return is_filled_by(label, thing) and is_falling(label, thing) and is_as_told(label, thing)


def mixed(one, other, part):
    """Two makings of one label MIXED, the one by this part, the other by the rest."""
    rest = minus((1, 1), part)
    return {path: plus(times(part, one[path]), times(rest, other[path])) for path in one}


def check_prices(label, prices):
    """Refuse what are no PRICES of the label's places."""
    if not isinstance(prices, dict):
        raise NoPrices("prices are no dict")
    for path, price in prices.items():
        if not label.has_path(path):
            raise NoPrices("no place of the label has this path")
        if not is_fraction(price):
            raise NoPrices("a price is no fraction")


def check_making(label, making):
    """Refuse what is no MAKING of the label."""
    if not is_making(label, making):
        raise NoMaking("this is no making of the label")


def cost(label, prices, making):
    """What a making COSTS by these prices."""
    check_prices(label, prices)
    check_making(label, making)
    return total([times(price, making[path]) for path, price in prices.items()])
