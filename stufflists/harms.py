"""What harms somebody: in a ware, maybe in it, or not [21]."""

from stufflists.errors import NoKinds, NoLimit
from stufflists.fractions import is_from_nought, is_less
from stufflists.labels import are_names, check_names, is_name
from stufflists.spreads import spread


def kinds_of(kinds, one):
    """A dict that has all names as keys to which one comes from this one, in one step or more."""
    found = {}
    new = list(kinds.get(one, []))
    while len(new) > 0:
        name = new.pop()
        if name not in found:
            found[name] = True
            new.extend(kinds.get(name, []))
    return found


def is_of(kinds, one, other):
    """Whether by these KINDS the one name is OF the other."""
    return other in kinds_of(kinds, one)


def is_harmful(name, names, kinds):
    """Whether a name is HARMFUL by some names."""
    known = kinds_of(kinds, name)
    return name in names or any([other in known for other in names])


def check_kinds(kinds):
    """Refuse what is no dict from NAMES to lists of NAMES."""
    if not isinstance(kinds, dict):
        raise NoKinds("kinds are no dict")
    for name, others in kinds.items():
        if not is_name(name) or not are_names(others):
            raise NoKinds("of what something is, is no list of names")


def check_limit(limit):
    """Refuse what is no FRACTION from 0 to 1."""
    if not is_from_nought(limit) or is_less((1, 1), limit):
        raise NoLimit("a limit is a fraction from 0 to 1")


def harmful_path(label, names, kinds):
    """The first path whose name is harmful, or None."""
    for path in label.paths():
        if is_harmful(label.name_at(path), names, kinds):
            return path
    return None


def harmful_word(label, names, kinds):
    """The first harmful word of those that the label may hold, or None."""
    for word in label.may():
        if is_harmful(word, names, kinds):
            return word
    return None


def harm_at_all(label, names, kinds):
    """What is told without a limit."""
    path = harmful_path(label, names, kinds)
    if path is not None:
        return ("in", path)
    word = harmful_word(label, names, kinds)
    return ("not", None) if word is None else ("may", word)


def harm_beyond(label, names, kinds, limit):
    """What is told by a limit."""
    present = [label.name_at(path) for path in label.paths()]
    harmful = [name for name in present if is_harmful(name, names, kinds)]
    low, high, makings, papers = spread(label, harmful)
    if is_less(limit, low):
        return ("in", papers[0])
    if is_less(limit, high):
        return ("may", makings[1])
    word = harmful_word(label, names, kinds)
    return ("not", papers[1]) if word is None else ("may", word)


def harm(label, names, kinds=None, limit=None):
    """Whether what harms by these names is in a ware of this label, may be in it, or not."""
    check_names(names)
    known = {} if kinds is None else kinds
    check_kinds(known)
    if limit is None:
        return harm_at_all(label, names, known)
    check_limit(limit)
    return harm_beyond(label, names, known, limit)
