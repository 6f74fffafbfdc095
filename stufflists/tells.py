"""The FEWEST told shares that settle a wish, and a tree that shows that no fewer do [22]."""

from stufflists.errors import NoWish, TooMany
from stufflists.fractions import is_fraction, is_less
from stufflists.labels import are_names, retold
from stufflists.leasts import least
from stufflists.makings import check_making
from stufflists.spreads import priced, share_of

MOST_IN_DOUBT = 6


def is_wish(thing):
    """Whether the thing, whatever it is, is a WISH."""
    if not isinstance(thing, tuple) or len(thing) != 3:
        return False
    word, names, share = thing
    if not isinstance(word, str) or word not in ("most", "least"):
        return False
    return are_names(names) and is_fraction(share)


def holds(label, making, wish):
    """Whether a wish HOLDS in a making."""
    word, names, bound = wish
    share = share_of(label, names, making)
    return not is_less(bound, share) if word == "most" else not is_less(share, bound)


def told_truly(label, making, paths):
    """The label TOLD TRULY by a making at these paths."""
    told = {path: label.told_at(path) for path in label.paths() if label.told_at(path) is not None}
    for path in paths:
        told[path] = (making[path], making[path])
    return retold(label, told)


def choices(paths, many):
    """All lists of so many of these paths, each in order."""
    if many == 0:
        return [[]]
    made = []
    for at, path in enumerate(paths):
        made.extend([[path] + others for others in choices(paths[at + 1:], many - 1)])
    return made


class Doubt:
    """A label, one of its makings, which is the true one, and a wish that holds there."""

    def __init__(self, doubted, true, wish):
        self.doubted = doubted
        self.true = true
        self.wish = wish
        self.worst = {}

    def worst_at(self, paths):
        """The least of the label told truly at these paths for the prices by which the wish holds worst."""
        key = tuple(sorted(paths))
        if key not in self.worst:
            word, names, bound = self.wish
            prices = priced(self.doubted, names, (-1, 1) if word == "most" else (1, 1))
            self.worst[key] = least(told_truly(self.doubted, self.true, paths), prices)
        return self.worst[key]

    def is_settled(self, paths):
        """Whether the wish holds in all makings of the label told truly at these paths."""
        return holds(self.doubted, self.worst_at(paths)[2], self.wish)

    def fewest_paths(self):
        """The first of the shortest lists of paths that settle the wish."""
        paths = self.doubted.paths()
        tried = []
        # All but one always settle it: the last share is what the others leave.
        for many in range(len(paths)):
            tried.extend(choices(paths, many))
        at = 0
        while not self.is_settled(tried[at]):
            at += 1
        return tried[at]

    def node(self, paths, many):
        """The NODE to which one came by these paths, where so many settle the wish."""
        making = self.worst_at(paths)[2]
        beyond = {}
        if len(paths) + 1 < many:
            for path in self.doubted.paths():
                if making[path] != self.true[path]:
                    beyond[path] = self.node(paths + [path], many)
        # One comes to the same paths by several ways, and each node's making is another dict.
        return ({path: making[path] for path in making}, beyond)


def fewest(label, making, wish):
    """The FEWEST paths of a label whose true shares settle a wish."""
    if len(label) > MOST_IN_DOUBT:
        raise TooMany("there are more than six places")
    check_making(label, making)
    if not is_wish(wish) or not holds(label, making, wish):
        raise NoWish("this is no wish, or it does not hold")
    doubt = Doubt(label, making, wish)
    paths = doubt.fewest_paths()
    tree = None if len(paths) == 0 else doubt.node([], len(paths))
    return (paths, doubt.worst_at(paths)[3], tree)
