"""RECIPES: PARTS by weight, some of which have a recipe of their own, and water cooked away [11, 12]."""

from stufflists.errors import NoCooked, NoDepth, NoName, NoPart, TooMany
from stufflists.fractions import is_fraction, is_from_nought, is_less, minus, total
from stufflists.labels import is_name

MOST_DEEP = 4
MOST_PARTS = 12


def is_part(thing):
    """Whether the thing, whatever it is, is a PART."""
    if not isinstance(thing, tuple) or len(thing) != 3:
        return False
    name, weight, inside = thing
    if not is_name(name) or not is_fraction(weight) or not is_less((0, 1), weight):
        return False
    return inside is None or isinstance(inside, Recipe)


def names_within(part):
    """The names of all parts within a PART, at any depth, one for each."""
    return [] if part[2] is None else list(part[2].all_names)


def check_parts(parts):
    """Refuse what is no list of PARTS that can stand beside one another."""
    if not isinstance(parts, (list, tuple)) or len(parts) == 0:
        raise NoPart(-1)
    ahead = []
    for number, part in enumerate(parts):
        if not is_part(part) or part[0] in ahead or part[0] in names_within(part):
            raise NoPart(number)
        ahead.append(part[0])


def depth_of(parts):
    """How deep parts stand in one another, these being one deep."""
    return 1 + max([0 if inside is None else inside.deep for name, weight, inside in parts])


def names_of(parts):
    """The names of these parts and of all within them, one for each."""
    names = []
    for part in parts:
        names.append(part[0])
        names.extend(names_within(part))
    return names


def plain_weight(parts, water):
    """The weight of the part of this name that has nothing inside; 0, where there is none."""
    for name, weight, inside in parts:
        if name == water and inside is None:
            return weight
    return (0, 1)


def check_cooked(parts, cooked, water):
    """Refuse what cannot be cooked away of these parts."""
    if not is_from_nought(cooked):
        raise NoCooked("what is cooked away is no fraction from 0 on")
    if is_less(plain_weight(parts, water), cooked):
        raise NoCooked("there is less water than is cooked away")
    if cooked == total([part[1] for part in parts]):
        raise NoCooked("nothing is left")


class Recipe:
    """PARTS, how much water is COOKED away, and the NAME of the water."""

    def __init__(self, parts, cooked=None, water="water"):
        check_parts(parts)
        if depth_of(parts) > MOST_DEEP:
            raise NoDepth("parts stand more than four deep in one another")
        if len(names_of(parts)) > MOST_PARTS:
            raise TooMany("there are more than twelve parts")
        if not is_name(water):
            raise NoName(-1)
        away = (0, 1) if cooked is None else cooked
        check_cooked(parts, away, water)
        self.made_of = tuple(parts)
        self.away = away
        self.water_name = water
        self.deep = depth_of(parts)
        self.all_names = tuple(names_of(parts))
        # What is cooked away is 0, where the part of the water's name has something inside.
        self.lefts = {name: minus(weight, away) if name == water else weight for name, weight, inside in parts}

    def parts(self):
        """The PARTS, in their order."""
        return list(self.made_of)

    def cooked(self):
        """How much water is cooked away."""
        return self.away

    def water(self):
        """The name of the water."""
        return self.water_name

    def whole(self):
        """What is left of all parts together."""
        return total(list(self.lefts.values()))

    def left(self, name):
        """What is left of the own part of this name."""
        if not is_name(name) or name not in self.lefts:
            raise NoName(-1)
        return self.lefts[name]

    def __eq__(self, other):
        if not isinstance(other, Recipe):
            return False
        return self.made_of == other.made_of and self.away == other.away and self.water_name == other.water_name

    def __len__(self):
        return len(self.made_of)
