"""A label's LINES, written and read [10]."""

from stufflists.errors import NoLine, NoName, NoPlace, TooMany
from stufflists.labels import Label
from stufflists.rowtexts import read_entry, read_words
from stufflists.wording import WORDS_AHEAD, entry_text, words_text


def rows_of(label):
    """The lines of a label, a list, without line feeds."""
    rows = ["  " * (len(path) - 1) + entry_text(label.name_at(path), label.told_at(path)) for path in label.paths()]
    if len(label.may()) > 0:
        rows.append(words_text(label.may()))
    return rows


def lines_of(label):
    """The LINES of a label."""
    return "".join([row + "\n" for row in rows_of(label)])


def read_rows(rows):
    """Tuples (blanks ahead, name, told), one for each of the lines of places."""
    made = []
    for row in rows:
        entry = row.lstrip(" ")
        name, told = read_entry(entry)
        made.append((len(row) - len(entry), name, told))
    return made


def places_in(entries):
    """The places that such tuples stand for, those with more blanks inside the one ahead of them."""
    made = []
    at = 0
    while at < len(entries):
        blanks, name, told = entries[at]
        end = at + 1
        while end < len(entries) and entries[end][0] > blanks:
            end += 1
        inside = None if end == at + 1 else places_in(entries[at + 1:end])
        made.append((name, told, inside))
        at = end
    return tuple(made)


def label_in(rows):
    """The label whose lines these are, one at least, or None where they are those of none."""
    words = None
    listed = rows
    if rows[-1].startswith(WORDS_AHEAD):
        words = read_words(rows[-1])
        listed = rows[:-1]
    try:
        label = Label(places_in(read_rows(listed)), words)
    except (NoPlace, TooMany, NoName):
        return None
    return label if rows_of(label) == rows else None


def read_lines(text):
    """The label whose LINES these are."""
    if not isinstance(text, str):
        raise NoLine(0)
    rows = text.split("\n")
    behind = rows.pop()
    label = None
    for many in range(1, len(rows) + 1):
        label = label_in(rows[:many])
        if label is None:
            raise NoLine(many)
    if label is None or behind != "":
        raise NoLine(len(rows) + 1)
    return label
