"""A label's ROW, read [9].

Reading takes a text for better than it may be: the label judges what was read, and what it writes must be the text.
"""

from stufflists.errors import NoName, NoPlace, NoRow, TooMany
from stufflists.fractions import fraction_in
from stufflists.labels import MOST_PLACES, Label
from stufflists.wording import WORDS_AHEAD


def read_told(text):
    """The two ends told by a text, each a FRACTION, or None where none is written."""
    least, to, most = text.partition(" to ")
    if to == "":
        return (fraction_in(least), fraction_in(least))
    return (fraction_in(least), fraction_in(most))


def read_entry(text):
    """The name that a text has, and what it tells of it, or None."""
    name, blank, told = text.partition(" ")
    return (name, None if blank == "" else read_told(told))


def read_words(text):
    """The words that a text has behind what stands ahead of them."""
    return text.removeprefix(WORDS_AHEAD).split(", ")


def entry_end(text, at):
    """Where the entry ends that begins at this sign."""
    while at < len(text) and text[at] not in ",()":
        at += 1
    return at


def read_place(text, at):
    """The place that begins at this sign, with what is inside it, and where it ends."""
    end = entry_end(text, at)
    if text[end:end + 1] != "(":
        name, told = read_entry(text[at:end])
        return (name, told, None), end
    name, told = read_entry(text[at:end].removesuffix(" "))
    inside, end = read_list(text, end + 1)
    return (name, told, inside), end + 1


def read_list(text, at):
    """The places that begin at this sign, and where they end."""
    made = []
    place, at = read_place(text, at)
    made.append(place)
    while text[at:at + 2] == ", ":
        place, at = read_place(text, at + 2)
        made.append(place)
    return tuple(made), at


def read_row(text):
    """The label whose ROW this is."""
    if not isinstance(text, str):
        raise NoRow("a row is a text")
    # Fewer brackets than places: so reading never goes deeper than a label could.
    if text.count("(") >= MOST_PLACES:
        raise NoRow("no label has so many lists")
    listed, semicolon, behind = text.partition("; ")
    places, end = read_list(listed, 0)
    words = None if semicolon == "" else read_words(behind)
    try:
        label = Label(places, words)
    except (NoPlace, TooMany, NoName):
        raise NoRow("what stands in the row makes no label") from None
    if str(label) != text:
        raise NoRow("the label of this row is written otherwise")
    return label
