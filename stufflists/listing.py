"""What a recipe leads to: its label, its own making, and the flat recipe [13]."""

from stufflists.errors import NoNear
from stufflists.fractions import fraction, is_whole, over, plus, times
from stufflists.labels import Label, check_names, gather
from stufflists.recipes import Recipe

MOST_NEAR = 1000


def kept_parts(recipe):
    """Tuples (left, name, inside) of the parts of which something is left, in the order of their places."""
    kept = [(recipe.left(name), name, inside) for name, weight, inside in recipe.parts() if recipe.left(name) != (0, 1)]
    # Written over one bottom, the fractions go in the order of their tops.
    bottom = 1
    for left, name, inside in kept:
        bottom = bottom * left[1]
    return sorted(kept, key=lambda row: (-(row[0][0] * (bottom // row[0][1])), row[1]))


def shared_places(recipe, share):
    """Tuples (name, share, inside), the places of a recipe that has itself this share of the whole ware."""
    whole = recipe.whole()
    made = []
    for left, name, inside in kept_parts(recipe):
        own = times(share, over(left, whole))
        within = None if inside is None else shared_places(inside, own)
        made.append((name, own, within))
    return tuple(made)


def shared_by_path(recipe):
    """A dict from all paths of a recipe's label, in order, to such tuples."""
    found = {}
    gather(shared_places(recipe, (1, 1)), (), found)
    return found


def told_share(share, near):
    """The STRETCH by which a share is told."""
    if near == 0:
        return (share, share)
    steps = share[0] * near // share[1]
    return (fraction(steps, near), fraction(min(steps + 1, near), near))


def told_places(places, names, near):
    """The LIST of such tuples, with the shares told of all places that have one of these names."""
    made = []
    for name, share, inside in places:
        told = told_share(share, near) if name in names else None
        within = None if inside is None else told_places(inside, names, near)
        made.append((name, told, within))
    return tuple(made)


def check_near(near):
    """Refuse what is no whole number from 0 to 1,000."""
    if not is_whole(near) or near < 0 or near > MOST_NEAR:
        raise NoNear("a near is a whole number from 0 to 1,000")


def label_of(recipe, tell=None, near=0, may=None):
    """The label OF a recipe, with the shares TOLD of the names in tell."""
    names = [] if tell is None else tell
    check_names(names)
    check_near(near)
    return Label(told_places(shared_places(recipe, (1, 1)), names, near), may)


def making_of(recipe):
    """The recipe's own MAKING, one of its label."""
    return {path: share for path, (name, share, inside) in shared_by_path(recipe).items()}


def flat(recipe):
    """The FLAT recipe: the plain stuffs alone, by their shares."""
    shares = {}
    for name, share, inside in shared_by_path(recipe).values():
        if inside is None:
            shares[name] = plus(shares.get(name, (0, 1)), share)
    return Recipe([(name, shares[name], None) for name in sorted(shares)])
