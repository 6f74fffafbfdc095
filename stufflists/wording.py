"""How LISTS, told STRETCHES and words are written in a label's row [9]."""

from stufflists.fractions import fraction_text


def told_text(told):
    """The text of a STRETCH: one fraction, where both ends are alike."""
    least, most = told
    if least == most:
        return fraction_text(least)
    return fraction_text(least) + " to " + fraction_text(most)


def place_text(place):
    """The text of a PLACE, with what is inside it."""
    name, told, inside = place
    share = "" if told is None else " " + told_text(told)
    within = "" if inside is None else " (" + list_text(inside) + ")"
    return name + share + within


def list_text(places):
    """The text of a LIST."""
    return ", ".join([place_text(place) for place in places])


def row_text(places, words):
    """The ROW of the label of this LIST and these words."""
    if len(words) == 0:
        return list_text(places)
    return list_text(places) + "; may hold " + ", ".join(words)
