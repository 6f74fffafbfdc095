"""A HOUSE, which keeps wares, and tells which lists change when a recipe does [23, 24]."""

from stufflists.errors import NoDepth, NoName, NoPart, NoWare, Ring, TooMany
from stufflists.fractions import is_fraction, is_less
from stufflists.labels import Label, check_names, is_name
from stufflists.listing import check_near, label_of
from stufflists.recipes import MOST_DEEP, MOST_PARTS, Recipe, check_cooked

WATER = "water"


def is_weighed(thing):
    """Whether the thing, whatever it is, is a tuple of a NAME and a FRACTION above 0."""
    if not isinstance(thing, tuple) or len(thing) != 2:
        return False
    name, weight = thing
    return is_name(name) and is_fraction(weight) and is_less((0, 1), weight)


def check_weighed(parts):
    """Refuse what is no list of such tuples with unlike names."""
    if not isinstance(parts, (list, tuple)) or len(parts) == 0:
        raise NoPart(-1)
    ahead = []
    for number, part in enumerate(parts):
        if not is_weighed(part) or part[0] in ahead:
            raise NoPart(number)
        ahead.append(part[0])


class Ware:
    """What a house keeps of one ware, as it was put."""

    def __init__(self, parts, cooked, tell, near, may):
        check_weighed(parts)
        away = (0, 1) if cooked is None else cooked
        # No ware is called as the water is, so it never has anything inside.
        check_cooked([(part, weight, None) for part, weight in parts], away, WATER)
        told_names = [] if tell is None else tell
        check_names(told_names)
        check_near(near)
        words = [] if may is None else may
        check_names(words)
        self.weighed = tuple(parts)
        self.away = away
        self.told_names = tuple(told_names)
        self.near = near
        self.words = tuple(words)

    def part_names(self):
        """The names of its parts."""
        return [name for name, weight in self.weighed]


def wares_of(kept, name):
    """The parts of a ware that are wares themselves."""
    return [part for part in kept[name].part_names() if part in kept]


def way_to(kept, ahead, aim):
    """The wares ahead and further ones, each a part of the one ahead of it, up to one that has the aim as a part.

    None, where there is no such way.
    """
    inner = wares_of(kept, ahead[-1])
    if aim in inner:
        return ahead
    for ware in inner:
        found = way_to(kept, ahead + [ware], aim)
        if found is not None:
            return found
    return None


def depth_in(kept, name):
    """How deep the parts of a ware stand in one another, its own being one deep."""
    return 1 + max([0] + [depth_in(kept, ware) for ware in wares_of(kept, name)])


def names_in(kept, name):
    """The names of all parts of a ware, its own and those within, one for each."""
    found = []
    for part in kept[name].part_names():
        found.append(part)
        if part in kept:
            found.extend(names_in(kept, part))
    return found


def recipe_in(kept, name):
    """The RECIPE of a ware."""
    ware = kept[name]
    parts = []
    for part, weight in ware.weighed:
        parts.append((part, weight, recipe_in(kept, part) if part in kept else None))
    return Recipe(parts, ware.away, WATER)


def label_in(kept, name):
    """The LABEL of a ware."""
    ware = kept[name]
    made = label_of(recipe_in(kept, name), ware.told_names, ware.near)
    listed = [made.name_at(path) for path in made.paths()]
    words = list(ware.words)
    for part in names_in(kept, name):
        if part in kept:
            words.extend(list(kept[part].words))
    return Label(made.places(), [word for word in words if word not in listed])


def check_kept(kept, name):
    """Refuse wares of which the one of this name was put last, where they cannot stand together."""
    ring = way_to(kept, [name], name)
    if ring is not None:
        raise Ring(ring)
    if any([depth_in(kept, ware) > MOST_DEEP for ware in kept]):
        raise NoDepth("parts of a ware would stand more than four deep in one another")
    if any([len(names_in(kept, ware)) > MOST_PARTS for ware in kept]):
        raise TooMany("a ware would have more than twelve parts")


class House:
    """Wares by their names."""

    def __init__(self):
        self.kept = {}
        self.labels = {}

    def keep(self, kept):
        """Keep just these wares from now on, and tell the names of those whose label is another one now."""
        labels = {name: label_in(kept, name) for name in kept}
        changed = [name for name in labels if not labels[name] == self.labels.get(name)]
        self.kept = kept
        self.labels = labels
        return sorted(changed)

    def check_ware(self, name):
        """Refuse what is not the name of a ware."""
        if not is_name(name) or name not in self.kept:
            raise NoWare(name)

    def put(self, name, parts, cooked=None, tell=None, near=0, may=None):
        """PUT a ware, and tell whose label is another one now."""
        if not is_name(name) or name == WATER:
            raise NoName(-1)
        ware = Ware(parts, cooked, tell, near, may)
        kept = dict(self.kept)
        kept[name] = ware
        check_kept(kept, name)
        return self.keep(kept)

    def drop(self, name):
        """DROP a ware, and tell whose label is another one now."""
        self.check_ware(name)
        return self.keep({other: self.kept[other] for other in self.kept if other != name})

    def ware_of(self, name):
        """What is kept of a ware."""
        self.check_ware(name)
        return self.kept[name]

    def recipe(self, name):
        """The RECIPE of a ware."""
        self.check_ware(name)
        return recipe_in(self.kept, name)

    def label(self, name):
        """The LABEL of a ware."""
        self.check_ware(name)
        return self.labels[name]

    def uses(self, name):
        """The wares in which a NAME is, sorted."""
        if not is_name(name):
            raise NoName(-1)
        return sorted([ware for ware in self.kept if name in names_in(self.kept, ware)])

    def wares(self):
        """The names of all wares, sorted."""
        return sorted(self.kept)

    def __len__(self):
        return len(self.kept)
