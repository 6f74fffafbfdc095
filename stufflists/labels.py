"""LABELS: a LIST of PLACES, and the words that a ware may hold beside [6, 7, 8]."""

from stufflists.errors import NoName, NoPath, NoPlace, NoStretch, TooMany
from stufflists.fractions import is_fraction, is_less, is_whole
from stufflists.wording import row_text

MOST_LETTERS = 8
MOST_DEPTH = 4
MOST_PLACES = 12


def is_name(thing):
    """Whether the thing, whatever it is, is a NAME."""
    if not isinstance(thing, str) or len(thing) < 1 or len(thing) > MOST_LETTERS:
        return False
    return all(["a" <= sign <= "z" for sign in thing])


def is_stretch(thing):
    """Whether the thing, whatever it is, is a STRETCH."""
    if not isinstance(thing, tuple) or len(thing) != 2:
        return False
    least, most = thing
    if not is_fraction(least) or not is_fraction(most):
        return False
    return not is_less(least, (0, 1)) and not is_less(most, least) and not is_less((1, 1), most)


def is_path(thing):
    """Whether the thing, whatever it is, is a tuple of whole numbers, and so can be looked up as a path."""
    return isinstance(thing, tuple) and all([is_whole(number) for number in thing])


def is_filled(thing):
    """Whether the thing, whatever it is, is a tuple with something in it."""
    return isinstance(thing, tuple) and len(thing) > 0


def is_formed(thing):
    """Whether the thing, whatever it is, can be a PLACE by itself; what is inside it is not looked at."""
    if not isinstance(thing, tuple) or len(thing) != 3:
        return False
    name, told, inside = thing
    if not is_name(name):
        return False
    if told is not None and not is_stretch(told):
        return False
    return inside is None or is_filled(inside)


def check_list(places, above, around):
    """Refuse the first path in order at which no PLACE stands.

    above is the path of the place that holds the places, around are its name and those around it.
    """
    ahead = []
    for at, place in enumerate(places):
        path = above + (at,)
        if len(path) > MOST_DEPTH or not is_formed(place):
            raise NoPlace(path)
        name, told, inside = place
        if name in ahead or name in around:
            raise NoPlace(path)
        ahead.append(name)
        if inside is not None:
            check_list(inside, path, around + [name])


def check_places(places):
    """Refuse what is no LIST."""
    if not is_filled(places):
        raise NoPlace(())
    check_list(places, (), [])


def are_names(thing):
    """Whether the thing, whatever it is, is a list of NAMES, perhaps of none."""
    return isinstance(thing, (list, tuple)) and all([is_name(name) for name in thing])


def check_names(names):
    """Refuse what is no list of NAMES."""
    if not isinstance(names, (list, tuple)):
        raise NoName(-1)
    for number, name in enumerate(names):
        if not is_name(name):
            raise NoName(number)


def gather(places, above, found):
    """Put all places into the dict found, by their paths, in order."""
    for at, place in enumerate(places):
        path = above + (at,)
        found[path] = place
        if place[2] is not None:
            gather(place[2], path, found)


class Label:
    """A LIST and the words that the ware MAY hold beside."""

    def __init__(self, places, may=None):
        check_places(places)
        found = {}
        gather(places, (), found)
        if len(found) > MOST_PLACES:
            raise TooMany("there are more than twelve places")
        words = [] if may is None else may
        check_names(words)
        self.listed = places
        self.words = tuple(sorted(set(words)))
        self.by_path = found

    def places(self):
        """The LIST."""
        return self.listed

    def may(self):
        """The words, sorted, each once."""
        return list(self.words)

    def paths(self):
        """All paths, in order."""
        return list(self.by_path)

    def has_path(self, thing):
        """Whether the thing, whatever it is, is the path of a place."""
        return is_path(thing) and thing in self.by_path

    def place_at(self, path):
        """The PLACE at a path."""
        if not self.has_path(path):
            raise NoPath("no place of the label has this path")
        return self.by_path[path]

    def name_at(self, path):
        """The name of a place."""
        return self.place_at(path)[0]

    def told_at(self, path):
        """The STRETCH in which the share of a place is told to lie, or None."""
        return self.place_at(path)[1]

    def many_in(self, path):
        """How many places are in the LIST that a place holds, or at () in the whole one."""
        if isinstance(path, tuple) and len(path) == 0:
            return len(self.listed)
        inside = self.place_at(path)[2]
        return 0 if inside is None else len(inside)

    def __eq__(self, other):
        return isinstance(other, Label) and self.listed == other.listed and self.words == other.words

    def __len__(self):
        return len(self.by_path)

    def __str__(self):
        return str(row_text(self.listed, self.words))

    def __repr__(self):
        return f"Label({row_text(self.listed, self.words)})"


def holders(label):
    """() and the paths of all places that hold a LIST, in order: each stands for its LIST."""
    return [()] + [path for path in label.paths() if label.many_in(path) > 0]


def paths_in(label, holder):
    """The paths of the places in the LIST that stands at (), or inside a place."""
    return [holder + (at,) for at in range(label.many_in(holder))]


def check_told(label, told):
    """Refuse what is no dict from paths of the label to STRETCHES."""
    if not isinstance(told, dict):
        raise NoStretch("what is told is no dict")
    for path, stretch in told.items():
        if not label.has_path(path):
            raise NoStretch("no place of the label has this path")
        if not is_stretch(stretch):
            raise NoStretch("what is told of a place is no stretch")


def told_anew(places, above, told):
    """The LIST of these places, with just that told which the dict has at their paths."""
    made = []
    for at, place in enumerate(places):
        path = above + (at,)
        name, before, inside = place
        within = None if inside is None else told_anew(inside, path, told)
        made.append((name, told.get(path), within))
    return tuple(made)


def retold(label, told):
    """The label of the same LIST and words, with just these STRETCHES told at these paths."""
    check_told(label, told)
    return Label(told_anew(label.places(), (), told), label.may())
