"""FRACTIONS: tuples (top, bottom) of whole numbers in lowest terms, the bottom above 0 [5]."""

from stufflists.errors import NoFraction


def is_whole(thing):
    """Whether the thing is a whole number: True and False are none."""
    return isinstance(thing, int) and not isinstance(thing, bool)


def common_measure(one, other):
    """The greatest whole number that measures both, of two from 0 on."""
    while other > 0:
        one, other = other, one % other
    return one


def fraction(top, bottom):
    """The FRACTION of two whole numbers."""
    if bottom == 0:
        raise NoFraction("the bottom is 0")
    measure = common_measure(abs(top), abs(bottom))
    if bottom < 0:
        measure = -measure
    return (top // measure, bottom // measure)


def plus(one, other):
    """The sum of two FRACTIONS."""
    return fraction(one[0] * other[1] + other[0] * one[1], one[1] * other[1])


def minus(one, other):
    """The one FRACTION less the other."""
    return fraction(one[0] * other[1] - other[0] * one[1], one[1] * other[1])


def times(one, other):
    """The product of two FRACTIONS."""
    return fraction(one[0] * other[0], one[1] * other[1])


def over(one, other):
    """The one FRACTION by the other."""
    return fraction(one[0] * other[1], one[1] * other[0])


def is_less(one, other):
    """Whether the one FRACTION is less than the other."""
    return one[0] * other[1] < other[0] * one[1]


def is_fraction(thing):
    """Whether the thing, whatever it is, is a FRACTION."""
    if not isinstance(thing, tuple) or len(thing) != 2:
        return False
    top, bottom = thing
    if not is_whole(top) or not is_whole(bottom) or bottom <= 0:
        return False
    return common_measure(abs(top), bottom) == 1


def is_from_nought(thing):
    """Whether the thing, whatever it is, is a FRACTION from 0 on."""
    return is_fraction(thing) and thing[0] >= 0


def total(some):
    """The sum of a list of FRACTIONS."""
    found = (0, 1)
    for one in some:
        found = plus(found, one)
    return found


def figures(number):
    """The figures of a whole number from 0 on."""
    # Python refuses to write a number of some thousand figures at once,
    # and fractions that were told may have more of them.
    groups = []
    while number >= 10 ** 60:
        number, low = divmod(number, 10 ** 60)
        groups.append(str(low).zfill(60))
    groups.append(str(number))
    return "".join(groups[::-1])


def fraction_text(one):
    """The text of a FRACTION, as `3` or `-3/4`."""
    top, bottom = one
    sign = "-" if top < 0 else ""
    below = "" if bottom == 1 else "/" + figures(bottom)
    return sign + figures(abs(top)) + below


def is_figures(text):
    """Whether a text is made of figures, one at least."""
    return len(text) > 0 and all(["0" <= sign <= "9" for sign in text])


def whole_in(text):
    """The whole number that is written with these figures."""
    # In groups, as they are written: Python refuses to read some thousand figures at once, too.
    first = len(text) % 60
    number = int("0" + text[:first])
    for at in range(first, len(text), 60):
        number = number * 10 ** 60 + int(text[at:at + 60])
    return number


def fraction_in(text):
    """The FRACTION whose text this is, sign by sign, or None."""
    above, slash, below = text.removeprefix("-").partition("/")
    if slash == "":
        below = "1"
    if not is_figures(above) or not is_figures(below):
        return None
    sign = -1 if text.startswith("-") else 1
    made = (sign * whole_in(above), whole_in(below))
    return made if is_fraction(made) and fraction_text(made) == text else None
