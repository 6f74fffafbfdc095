"""What the tests reckon themselves of makings, prices and papers, with Python's own fractions [14, 15, 16, 18]."""

import unittest
from fractions import Fraction

NO_FRACTIONS = (None, 0, 1, True, "1/2", (1,), (2, 4), (1, 0), (1, -2), [1, 2], (True, 1), (0, 2), (1, 2, 3), {}, (),
                object())
NO_DICTS = (None, 0, 1, True, "", "salt", (), [], [((0,), (1, 1))], (((0,), (1, 1)),), {(0,)}, b"", object(), dict)
NO_LISTS = (None, "a", "", 0, 1, True, False, {}, {"a": 1}, {"a"}, b"a", object())
NO_NAMES = ("", "A", "abcdefghi", "a b", None, 0, True, b"a", ["a"], ("a",), {}, object())


def places_by_path(label):
    """All places by their paths, gone through from the LIST itself."""
    found = {}

    def go(places, above):
        for at, place in enumerate(places):
            found[above + (at,)] = place
            if place[2] is not None:
                go(place[2], above + (at,))

    go(label.places(), ())
    return found


def is_fraction_from_nought(thing):
    if type(thing) is not tuple or len(thing) != 2 or any(type(number) is not int for number in thing):
        return False
    return thing[0] >= 0 and thing[1] > 0 and (Fraction(*thing).numerator, Fraction(*thing).denominator) == thing


def is_made(label, making):
    """Whether a making is one of the label, by the tests' own sums."""
    places = places_by_path(label)
    if type(making) is not dict or set(making) != set(places):
        return False
    if not all(is_fraction_from_nought(share) for share in making.values()):
        return False
    shares = {path: Fraction(*share) for path, share in making.items()}
    sums = {}
    for path in places:
        sums[path[:-1]] = sums.get(path[:-1], 0) + shares[path]
        if path[-1] > 0 and shares[path] > shares[path[:-1] + (path[-1] - 1,)]:
            return False
        told = places[path][1]
        if told is not None and not Fraction(*told[0]) <= shares[path] <= Fraction(*told[1]):
            return False
    return all(whole == (1 if holder == () else shares[holder]) for holder, whole in sums.items())


def costing(prices, making):
    return sum((Fraction(*price) * Fraction(*making[path]) for path, price in prices.items()), Fraction(0))


def showing(label, prices, paper):
    """What a paper shows, or None where it is none for the prices."""
    places = places_by_path(label)
    if type(paper) is not tuple or [type(part) for part in paper] != [dict, dict, dict]:
        return None
    holding = {()} | {path for path in places if places[path][2] is not None}
    telling = {path for path in places if places[path][1] is not None}
    if not set(paper[0]) <= holding or not set(paper[1]) | set(paper[2]) <= telling:
        return None
    lists, least, most = [{path: Fraction(*number) for path, number in part.items()} for part in paper]
    if any(number < 0 for part in (least, most) for number in part.values()):
        return None
    for path in places:
        above = Fraction(0)
        for at in range(path[-1] + 1):
            place = path[:-1] + (at,)
            above += Fraction(*prices.get(place, (0, 1))) - lists.get(path[:-1], 0) + lists.get(place, 0)
            above += most.get(place, 0) - least.get(place, 0)
        if above < 0:
            return None
    found = lists.get((), Fraction(0))
    found += sum(number * Fraction(*places[path][1][0]) for path, number in least.items())
    return found - sum(number * Fraction(*places[path][1][1]) for path, number in most.items())


def counting(label, names):
    """The paths that count for some names: of a place that has one, and around which none has."""
    places = places_by_path(label)
    having = {path for path in places if places[path][0] in names}
    return {path for path in having if not any(path[:deep] in having for deep in range(1, len(path)))}


def sharing(label, names, making):
    return sum((Fraction(*making[path]) for path in counting(label, names)), Fraction(0))


def inner_things(answer):
    """All lists and dicts within an answer, also within tuples, lists and dicts."""
    found = []
    if isinstance(answer, (list, dict)):
        found.append(answer)
    if isinstance(answer, (list, tuple)):
        for part in answer:
            found.extend(inner_things(part))
    if isinstance(answer, dict):
        for part in answer.values():
            found.extend(inner_things(part))
    return found


def copied(answer):
    if isinstance(answer, list):
        return [copied(part) for part in answer]
    if isinstance(answer, tuple):
        return tuple(copied(part) for part in answer)
    if isinstance(answer, dict):
        return {key: copied(part) for key, part in answer.items()}
    return answer


class Judging(unittest.TestCase):
    def assertMaking(self, label, making):
        self.assertTrue(is_made(label, making), (label, making))

    def assertShows(self, label, prices, paper, least):
        """It is a paper for these prices, and shows at least so much."""
        found = showing(label, prices, paper)
        self.assertIsNotNone(found, (label, prices, paper))
        self.assertGreaterEqual(found, least)

    def assertShowsNever(self, label, paper):
        found = showing(label, {}, paper)
        self.assertIsNotNone(found, (label, paper))
        self.assertGreater(found, 0)

    def assertOwn(self, ask):
        """What is told is the asker's own: no list or dict of it is another one of it, or of another answer."""
        first, second = ask(), ask()
        before = copied(first)
        self.assertEqual(second, before)
        marks = [id(thing) for thing in inner_things(first) + inner_things(second)]
        self.assertGreater(len(marks), 0)
        self.assertEqual(len(marks), len(set(marks)))
        for thing in inner_things(first):
            thing.clear()
            self.assertEqual(second, before)
            self.assertEqual(ask(), before)
