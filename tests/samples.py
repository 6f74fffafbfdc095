"""Labels and recipes that several tests use, and such as are drawn by a number, always the same ones."""

from fractions import Fraction
from random import Random

from stufflists.labels import Label
from stufflists.recipes import Recipe

FIFTH = ((1, 5), (1, 4))
NOUGHT = ((0, 1), (0, 1))
ALL = ((0, 1), (1, 1))
LETTERS = "abcdefghijklmnopqrstuvwxyz"


def plain(*names):
    return tuple((name, None, None) for name in names)


# places, words, row, lines
WRITTEN = (
    (plain("salt"), [], "salt", "salt\n"),
    (plain("salt"), ["egg"], "salt; may hold egg", "salt\nmay hold egg\n"),
    (plain("to", "may", "hold"), ["hold", "may", "to"],
     "to, may, hold; may hold hold, may, to", "to\nmay\nhold\nmay hold hold, may, to\n"),
    ((("to", FIFTH, None), ("may", None, plain("hold")), ("hold", ALL, None)), ["may"],
     "to 1/5 to 1/4, may (hold), hold 0 to 1; may hold may",
     "to 1/5 to 1/4\nmay\n  hold\nhold 0 to 1\nmay hold may\n"),
    ((("flour", ((2, 5), (2, 5)), None),
      ("choc", FIFTH, (("sugar", None, None), ("cocoa", ((1, 10), (1, 1)), None))),
      ("water", None, None)), ["egg", "nut"],
     "flour 2/5, choc 1/5 to 1/4 (sugar, cocoa 1/10 to 1), water; may hold egg, nut",
     "flour 2/5\nchoc 1/5 to 1/4\n  sugar\n  cocoa 1/10 to 1\nwater\nmay hold egg, nut\n"),
    ((("a", NOUGHT, (("b", ALL, (("c", None, (("d", ((1, 1), (1, 1)), None), ("e", FIFTH, None))),)),
                     ("f", None, None))), ("abcdefgh", None, plain("d"))), [],
     "a 0 (b 0 to 1 (c (d 1, e 1/5 to 1/4)), f), abcdefgh (d)",
     "a 0\n  b 0 to 1\n    c\n      d 1\n      e 1/5 to 1/4\n  f\nabcdefgh\n  d\n"),
    (plain(*LETTERS[:12]), list(LETTERS[10:16]),
     "a, b, c, d, e, f, g, h, i, j, k, l; may hold k, l, m, n, o, p",
     "a\nb\nc\nd\ne\nf\ng\nh\ni\nj\nk\nl\nmay hold k, l, m, n, o, p\n"),
    ((("oil", ((12345678901234567891, 98765432109876543210), (98765432109876543209, 98765432109876543210)), None),), [],
     "oil 12345678901234567891/98765432109876543210 to 98765432109876543209/98765432109876543210",
     "oil 12345678901234567891/98765432109876543210 to 98765432109876543209/98765432109876543210\n"),
)


def as_tuple(value):
    return (value.numerator, value.denominator)


def drawn_stretch(rng):
    bottom = rng.choice((1, 2, 3, 10, 12))
    ends = sorted(Fraction(rng.randint(0, bottom), bottom) for _ in range(2))
    return (as_tuple(ends[0]), as_tuple(ends[rng.randint(0, 1)]))


def drawn_places(rng, budget, deep, around, tell=0.4):
    """A LIST of at most as many places as the budget, a list of one number, has left."""
    names = [name for name in LETTERS[:9] if name not in around]
    made = []
    for name in rng.sample(names, rng.randint(1, 4)):
        if budget[0] == 0 and made:
            break
        budget[0] -= 1
        inside = None
        if deep < 4 and budget[0] > 0 and rng.random() < 0.4:
            inside = drawn_places(rng, budget, deep + 1, around + [name], tell)
        made.append((name, drawn_stretch(rng) if rng.random() < tell else None, inside))
    return tuple(made)


def drawn_label(seed, tell=0.4):
    rng = Random(seed)
    return Label(drawn_places(rng, [rng.randint(1, 12)], 1, [], tell), rng.sample(LETTERS, rng.choice((0, 0, 1, 3))))


def drawn_recipe_of(rng, budget, deep, around):
    names = [name for name in list(LETTERS[:6]) + ["water"] if name not in around]
    parts = []
    for name in rng.sample(names, rng.randint(1, 4)):
        if budget[0] == 0 and parts:
            break
        budget[0] -= 1
        inside = None
        if deep < 4 and budget[0] > 0 and rng.random() < 0.4:
            inside = drawn_recipe_of(rng, budget, deep + 1, around + [name])
        parts.append((name, as_tuple(Fraction(rng.randint(1, 6), rng.choice((1, 2, 5)))), inside))
    water = [Fraction(*weight) for name, weight, inside in parts if name == "water" and inside is None]
    if water and rng.random() < 0.7:
        cooked = water[0] * Fraction(rng.randint(0, 2 if len(parts) > 1 else 1), 2)
        return Recipe(parts, as_tuple(cooked))
    return Recipe(parts)


def drawn_recipe(seed):
    rng = Random(seed)
    return drawn_recipe_of(rng, [rng.randint(1, 12)], 1, [])
