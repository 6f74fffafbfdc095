"""A DESK, which takes rows of words for a house of its own, and answers in texts."""

from stufflists.errors import NoDeed
from stufflists.fractions import fraction_in, fraction_text
from stufflists.harms import harm
from stufflists.house import House
from stufflists.labels import is_name
from stufflists.linetexts import rows_of
from stufflists.listing import making_of
from stufflists.pairs import one_making
from stufflists.spreads import share_of, spread


def put_ware(house, words):
    """What the row `ware WARE NAME F NAME F ..` says."""
    parts = [(name, fraction_in(text)) for name, text in zip(words[1::2], words[2::2])]
    return " ".join(house.put(words[0], parts))


def cook_ware(house, words):
    """What the row `cook WARE F` says."""
    ware = house.ware_of(words[0])
    away = fraction_in(words[1])
    return " ".join(house.put(words[0], ware.weighed, away, ware.told_names, ware.near, ware.words))


def word_ware(house, words):
    """What the row `may WARE NAME ..` says."""
    ware = house.ware_of(words[0])
    return " ".join(house.put(words[0], ware.weighed, ware.away, ware.told_names, ware.near, words[1:]))


def tell_ware(house, words):
    """What the row `tell WARE NAME ..` says."""
    ware = house.ware_of(words[0])
    return " ".join(house.put(words[0], ware.weighed, ware.away, words[1:], ware.near, ware.words))


def drop_ware(house, words):
    """What the row `drop WARE` says."""
    return " ".join(house.drop(words[0]))


def row_of_ware(house, words):
    """What the row `label WARE` says."""
    return str(house.label(words[0]))


def lines_of_ware(house, words):
    """What the row `lines WARE` says."""
    return "; ".join(rows_of(house.label(words[0])))


def true_share(house, words):
    """What the row `true WARE NAME` says."""
    own = making_of(house.recipe(words[0]))
    return fraction_text(share_of(house.label(words[0]), words[1:], own))


def spread_share(house, words):
    """What the row `share WARE NAME` says."""
    told = spread(house.label(words[0]), words[1:])
    return fraction_text(told[0]) + " to " + fraction_text(told[1])


def harm_in_ware(house, words):
    """What the row `harm WARE NAME ..` says."""
    return harm(house.label(words[0]), words[1:])[0]


def pair_wares(house, words):
    """What the row `pair WARE WARE` says."""
    return one_making(house.label(words[0]), house.label(words[1]))[0]


def name_wares(house, words):
    """What the row `wares` says."""
    return " ".join(house.wares())


# What stands behind the first word, a sign for each word: N a NAME, F a FRACTION's text; then what may come again and
# again behind that. That a name is a ware's, where it must be, the house judges ahead of all else.
FORMS = {
    "ware": ("NNF", "NF"),
    "cook": ("NF", ""),
    "may": ("N", "N"),
    "tell": ("N", "N"),
    "drop": ("N", ""),
    "label": ("N", ""),
    "lines": ("N", ""),
    "true": ("NN", ""),
    "share": ("NN", ""),
    "harm": ("NN", "N"),
    "pair": ("NN", ""),
    "wares": ("", ""),
}

DEEDS = {
    "ware": put_ware,
    "cook": cook_ware,
    "may": word_ware,
    "tell": tell_ware,
    "drop": drop_ware,
    "label": row_of_ware,
    "lines": lines_of_ware,
    "true": true_share,
    "share": spread_share,
    "harm": harm_in_ware,
    "pair": pair_wares,
    "wares": name_wares,
}


def signs_for(words):
    """The signs of the form that these words must have by the first one, as many as words follow, or nearly so."""
    form, again = FORMS[words[0]]
    signs = form
    while again != "" and len(signs) < len(words) - 1:
        signs = signs + again
    return signs


def fits(sign, word):
    """Whether a word is of the kind that a sign stands for."""
    return fraction_in(word) is not None if sign == "F" else is_name(word)


def is_formed_as(signs, words):
    """Whether the words are, one by one, of the kinds that the signs stand for."""
    return len(signs) == len(words) and all([fits(sign, word) for sign, word in zip(signs, words)])


class Desk:
    """A house of its own, and rows that are said to it."""

    def __init__(self):
        self.house = House()

    def say(self, row):
        """Do what a row says, and tell what it asks for."""
        words = row.split(" ") if isinstance(row, str) else [""]
        if words[0] not in FORMS:
            raise NoDeed("no row begins so")
        if not is_formed_as(signs_for(words), words[1:]):
            raise NoDeed("the row does not go on so")
        deed = DEEDS[words[0]]
        return deed(self.house, words[1:])
