"""PAPERS: what shows that no making costs less [16]."""

from stufflists.errors import NoPaper
from stufflists.fractions import is_fraction, is_from_nought, is_less, minus, plus, times
from stufflists.labels import holders, is_path, paths_in
from stufflists.makings import check_prices


def is_by_lists(label, thing):
    """Whether the thing, whatever it is, is a dict from () and paths of places that hold a LIST to FRACTIONS."""
    if not isinstance(thing, dict):
        return False
    lists = holders(label)
    return all([is_path(path) and path in lists and is_fraction(number) for path, number in thing.items()])


def is_by_told(label, thing):
    """Whether the thing, whatever it is, is a dict from paths of told places to FRACTIONS from 0 on."""
    if not isinstance(thing, dict):
        return False
    for path, number in thing.items():
        if not label.has_path(path) or label.told_at(path) is None or not is_from_nought(number):
            return False
    return True


def is_paper(label, thing):
    """Whether the thing, whatever it is, is a PAPER of the label."""
    if not isinstance(thing, tuple) or len(thing) != 3:
        return False
    lists, least, most = thing
    return is_by_lists(label, lists) and is_by_told(label, least) and is_by_told(label, most)


def due(paper, path):
    """What a place is DUE; at the path of a plain one lists has nothing."""
    lists, least, most = paper
    of_lists = minus(lists.get(path[:-1], (0, 1)), lists.get(path, (0, 1)))
    of_told = minus(least.get(path, (0, 1)), most.get(path, (0, 1)))
    return plus(of_lists, of_told)


def is_for(label, prices, paper):
    """Whether a paper is one FOR these prices."""
    for holder in holders(label):
        above = (0, 1)
        for path in paths_in(label, holder):
            above = plus(above, minus(prices.get(path, (0, 1)), due(paper, path)))
            if is_less(above, (0, 1)):
                return False
    return True


def shows(label, paper):
    """What a paper SHOWS."""
    lists, least, most = paper
    found = lists.get((), (0, 1))
    for path, number in least.items():
        found = plus(found, times(number, label.told_at(path)[0]))
    for path, number in most.items():
        found = minus(found, times(number, label.told_at(path)[1]))
    return found


def shown(label, prices, paper):
    """What a paper SHOWS, where it is one for these prices."""
    check_prices(label, prices)
    if not is_paper(label, paper) or not is_for(label, prices, paper):
        raise NoPaper("this is no paper for these prices")
    return shows(label, paper)
