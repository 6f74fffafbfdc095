"""How LISTS, told STRETCHES and words are written in a label's row and lines [9, 10]."""

from stufflists.fractions import fraction_text

WORDS_AHEAD = "may hold "


def told_text(told):
    """The text of a STRETCH: one fraction, where both ends are alike."""
    least, most = told
    if least == most:
        return fraction_text(least)
    return fraction_text(least) + " to " + fraction_text(most)


def entry_text(name, told):
    """The text of a name and of what is told of it, None or a STRETCH."""
    return name if told is None else name + " " + told_text(told)


def place_text(place):
    """The text of a PLACE, with what is inside it."""
    name, told, inside = place
    within = "" if inside is None else " (" + list_text(inside) + ")"
    return entry_text(name, told) + within


def list_text(places):
    """The text of a LIST."""
    return ", ".join([place_text(place) for place in places])


def words_text(words):
    """The text of some words that a ware may hold."""
    return WORDS_AHEAD + ", ".join(words)


def row_text(places, words):
    """The ROW of the label of this LIST and these words."""
    if len(words) == 0:
        return list_text(places)
    return list_text(places) + "; " + words_text(words)
