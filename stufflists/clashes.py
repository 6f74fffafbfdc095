"""The CLASH of a label without makings: told shares of which none can be spared [19]."""

from stufflists.errors import NoClash
from stufflists.labels import retold
from stufflists.leasts import least


def bound_paths(paper):
    """The paths of the told places that a paper, noughts left out of it, makes use of, sorted."""
    lists, low, high = paper
    return sorted(set(list(low) + list(high)))


def told_alone(label, paths):
    """The label with what it tells at these paths, and nothing else told."""
    return retold(label, {path: label.told_at(path) for path in paths})


def clash(label):
    """The CLASH of a label."""
    answer = least(label, {})
    if answer[0] == "least":
        raise NoClash("there is a making")
    paper = answer[1]
    makings = {}
    untried = bound_paths(paper)
    while len(untried) > 0:
        path = untried[0]
        answer = least(told_alone(label, [other for other in bound_paths(paper) if other != path]), {})
        if answer[0] == "least":
            # What is told at fewer paths later on lets this making, too.
            makings[path] = answer[2]
            untried = untried[1:]
        else:
            paper = answer[1]
            bound = bound_paths(paper)
            untried = [other for other in untried if other in bound]
    return (bound_paths(paper), paper, makings)
