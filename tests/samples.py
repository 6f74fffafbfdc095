"""Labels and recipes that several tests use, and such as are drawn by a number, always the same ones."""

from fractions import Fraction
from random import Random

from stufflists.labels import Label, retold
from stufflists.recipes import Recipe

FIFTH = ((1, 5), (1, 4))
NOUGHT = ((0, 1), (0, 1))
ALL = ((0, 1), (1, 1))
LETTERS = "abcdefghijklmnopqrstuvwxyz"


def plain(*names):
    return tuple((name, None, None) for name in names)


# places, words, row, lines
WRITTEN = (
    (plain("salt"), [], "salt", "salt\n"),
    (plain("salt"), ["egg"], "salt; may hold egg", "salt\nmay hold egg\n"),
    (plain("to", "may", "hold"), ["hold", "may", "to"],
     "to, may, hold; may hold hold, may, to", "to\nmay\nhold\nmay hold hold, may, to\n"),
    ((("to", FIFTH, None), ("may", None, plain("hold")), ("hold", ALL, None)), ["may"],
     "to 1/5 to 1/4, may (hold), hold 0 to 1; may hold may",
     "to 1/5 to 1/4\nmay\n  hold\nhold 0 to 1\nmay hold may\n"),
    ((("flour", ((2, 5), (2, 5)), None),
      ("choc", FIFTH, (("sugar", None, None), ("cocoa", ((1, 10), (1, 1)), None))),
      ("water", None, None)), ["egg", "nut"],
     "flour 2/5, choc 1/5 to 1/4 (sugar, cocoa 1/10 to 1), water; may hold egg, nut",
     "flour 2/5\nchoc 1/5 to 1/4\n  sugar\n  cocoa 1/10 to 1\nwater\nmay hold egg, nut\n"),
    ((("a", NOUGHT, (("b", ALL, (("c", None, (("d", ((1, 1), (1, 1)), None), ("e", FIFTH, None))),)),
                     ("f", None, None))), ("abcdefgh", None, plain("d"))), [],
     "a 0 (b 0 to 1 (c (d 1, e 1/5 to 1/4)), f), abcdefgh (d)",
     "a 0\n  b 0 to 1\n    c\n      d 1\n      e 1/5 to 1/4\n  f\nabcdefgh\n  d\n"),
    (plain(*LETTERS[:12]), list(LETTERS[10:16]),
     "a, b, c, d, e, f, g, h, i, j, k, l; may hold k, l, m, n, o, p",
     "a\nb\nc\nd\ne\nf\ng\nh\ni\nj\nk\nl\nmay hold k, l, m, n, o, p\n"),
    ((("oil", ((12345678901234567891, 98765432109876543210), (98765432109876543209, 98765432109876543210)), None),), [],
     "oil 12345678901234567891/98765432109876543210 to 98765432109876543209/98765432109876543210",
     "oil 12345678901234567891/98765432109876543210 to 98765432109876543209/98765432109876543210\n"),
)


def as_tuple(value):
    return (value.numerator, value.denominator)


def drawn_stretch(rng):
    bottom = rng.choice((1, 2, 3, 10, 12))
    ends = sorted(Fraction(rng.randint(0, bottom), bottom) for _ in range(2))
    return (as_tuple(ends[0]), as_tuple(ends[rng.randint(0, 1)]))


def drawn_places(rng, budget, deep, around, tell=0.4):
    """A LIST of at most as many places as the budget, a list of one number, has left."""
    names = [name for name in LETTERS[:9] if name not in around]
    made = []
    for name in rng.sample(names, rng.randint(1, 4)):
        if budget[0] == 0 and made:
            break
        budget[0] -= 1
        inside = None
        if deep < 4 and budget[0] > 0 and rng.random() < 0.4:
            inside = drawn_places(rng, budget, deep + 1, around + [name], tell)
        made.append((name, drawn_stretch(rng) if rng.random() < tell else None, inside))
    return tuple(made)


def drawn_label(seed, tell=0.4):
    rng = Random(seed)
    return Label(drawn_places(rng, [rng.randint(1, 12)], 1, [], tell), rng.sample(LETTERS, rng.choice((0, 0, 1, 3))))


def drawn_recipe_of(rng, budget, deep, around):
    names = [name for name in list(LETTERS[:6]) + ["water"] if name not in around]
    parts = []
    for name in rng.sample(names, rng.randint(1, 4)):
        if budget[0] == 0 and parts:
            break
        budget[0] -= 1
        inside = None
        if deep < 4 and budget[0] > 0 and rng.random() < 0.4:
            inside = drawn_recipe_of(rng, budget, deep + 1, around + [name])
        parts.append((name, as_tuple(Fraction(rng.randint(1, 6), rng.choice((1, 2, 5)))), inside))
    water = [Fraction(*weight) for name, weight, inside in parts if name == "water" and inside is None]
    if water and rng.random() < 0.7:
        cooked = water[0] * Fraction(rng.randint(0, 2 if len(parts) > 1 else 1), 2)
        return Recipe(parts, as_tuple(cooked))
    return Recipe(parts)


def drawn_recipe(seed):
    rng = Random(seed)
    return drawn_recipe_of(rng, [rng.randint(1, 12)], 1, [])


def bare_label(rng, most=12, deep=4):
    """A label with nothing told."""
    places = drawn_places(rng, [rng.randint(1, most)], 5 - deep, [], 0)
    return Label(places, rng.sample(LETTERS, rng.choice((0, 0, 1, 3))))


def drawn_shares(rng, label, holder, whole, found):
    """Falling shares for the places of one LIST, and those inside them, put into the dict found."""
    weights = sorted((rng.randint(0, 6) for _ in range(label.many_in(holder))), reverse=True)
    if sum(weights) == 0:
        weights[0] = 1
    for at, weight in enumerate(weights):
        path = holder + (at,)
        found[path] = as_tuple(whole * Fraction(weight, sum(weights)))
        if label.many_in(path) > 0:
            drawn_shares(rng, label, path, Fraction(*found[path]), found)


def drawn_making(rng, label):
    """A making of a label with nothing told."""
    found = {}
    drawn_shares(rng, label, (), Fraction(1), found)
    return found


def around_share(rng, share, wide):
    """A stretch in which the share lies, at an end of it or not."""
    share = Fraction(*share)
    least = max(Fraction(0), share - wide * Fraction(rng.randint(0, 4), 4))
    most = min(Fraction(1), share + wide * Fraction(rng.randint(0, 4), 4))
    return (as_tuple(least), as_tuple(most))


def told_label(rng, tell, wide=Fraction(1, 10), most=12):
    """A label with stretches told around a making, each with the chance tell, and that making."""
    label = bare_label(rng, most)
    making = drawn_making(rng, label)
    told = {path: around_share(rng, making[path], wide) for path in label.paths() if rng.random() < tell}
    return retold(label, told), making


def shaken_label(rng, wide=Fraction(1, 10)):
    """A label that tells most shares, each around another making: it can have none at all."""
    label = bare_label(rng)
    makings = [drawn_making(rng, label) for _ in range(2)]
    told = {path: around_share(rng, rng.choice(makings)[path], wide) for path in label.paths() if rng.random() < 0.8}
    return retold(label, told)


def drawn_prices(rng, label, chance=0.6, figures=1):
    """Prices above and below 0; with a chance of 0 none, of 1 for all places."""
    most = 10 ** figures - 1
    return {path: as_tuple(Fraction(rng.randint(-most, most), rng.randint(1, most)))
            for path in label.paths() if rng.random() < chance}


def weighed(text):
    """The parts of a ware that a text tells: `rye 2 water 1/2`."""
    words = text.split()
    return [(name, as_tuple(Fraction(weight))) for name, weight in zip(words[::2], words[1::2])]


def labels_of(house):
    return {name: house.label(name) for name in house.wares()}
