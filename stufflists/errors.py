"""The errors by which the program refuses, each under the class that the interface tells.

No message shows the value that an error is made of: that may be anything, also what cannot be written out.
"""


def own_copy(thing):
    """The thing with its lists and dicts copied, so that an error keeps what it was made of."""
    if isinstance(thing, list):
        return [own_copy(part) for part in thing]
    if isinstance(thing, tuple):
        return tuple([own_copy(part) for part in thing])
    if isinstance(thing, dict):
        return {key: own_copy(part) for key, part in thing.items()}
    return thing


class StuffError(ValueError):
    """Something handed in is not what it must be."""


class NoFraction(StuffError):
    """A bottom of 0, or a quotient by 0."""


class NoPlace(StuffError):
    """No PLACE stands at this path of what a label was to be made of."""

    def __init__(self, path):
        super().__init__("no place stands at this path")
        self.path = path


class TooMany(StuffError):
    """More places or parts than are let."""


class NoName(StuffError):
    """The thing of this number is no NAME; -1, where there is no list, or one name alone."""

    def __init__(self, number):
        super().__init__("no name stands at this number")
        self.number = number


class NoPath(StuffError):
    """No path of the label."""


class NoStretch(StuffError):
    """No dict from paths of the label to STRETCHES."""


class NoPart(StuffError):
    """The thing of this number is no PART; -1, where there is no list of some."""

    def __init__(self, number):
        super().__init__("no part stands at this number")
        self.number = number


class NoDepth(StuffError):
    """Parts too deep in one another."""


class NoCooked(StuffError):
    """No amount of water that can be cooked away."""


class NoNear(StuffError):
    """No whole number by which shares can be told nearly."""


class NoPrices(StuffError):
    """No dict from paths of the label to FRACTIONS."""


class NoMaking(StuffError):
    """No MAKING of the label."""


class NoPaper(StuffError):
    """No PAPER for the prices."""


class Never(StuffError):
    """The label has no making, as this paper shows."""

    def __init__(self, paper):
        super().__init__("no making is of this label")
        self.paper = own_copy(paper)


class NoClash(StuffError):
    """The label has a making."""


class NoKinds(StuffError):
    """No dict from NAMES to lists of NAMES."""


class NoLimit(StuffError):
    """No FRACTION from 0 to 1."""


class NoWish(StuffError):
    """No WISH, or one that does not hold."""


class TextError(StuffError):
    """A text that cannot be read."""


class NoRow(TextError):
    """Not the row of a label."""


class NoLine(TextError):
    """Up to this line, not the lines of a label."""

    def __init__(self, line):
        super().__init__("up to this line these are no lines of a label")
        self.line = line


class NoDeed(TextError):
    """No row that a desk knows."""


class HouseError(LookupError):
    """A house does not have, or cannot keep, what it is asked for."""


class NoWare(HouseError):
    """The house has no ware of this name."""

    def __init__(self, name):
        super().__init__("the house has no ware of this name")
        self.name = own_copy(name)


class Ring(HouseError):
    """These wares would each be in itself."""

    def __init__(self, names):
        super().__init__("a ware would be in itself")
        self.names = own_copy(names)
