"""Rows, read [9]."""

import re
import unittest
from math import gcd

from samples import ALL, LETTERS, WRITTEN, drawn_label, plain

from stufflists.errors import NoRow, StuffError, TextError
from stufflists.fractions import times
from stufflists.labels import Label
from stufflists.rowtexts import read_row

EXAMPLE = "flour 2/5, choc 1/5 to 1/4 (sugar, cocoa 1/10 to 1), water; may hold egg, nut"
NAME = "[a-z]{1,8}"


def told_by(text):
    """Whether the text is that of a STRETCH."""
    ends = []
    for part in text.split(" to "):
        found = re.fullmatch("(0|[1-9][0-9]*)(/([1-9][0-9]*))?", part)
        if not found or found[2] == "/1":
            return False
        top, bottom = int(found[1]), int(found[3] or 1)
        if top > bottom or gcd(top, bottom) != 1:
            return False
        ends.append((top, bottom))
    if len(ends) == 1:
        return True
    return len(ends) == 2 and ends[0][0] * ends[1][1] < ends[1][0] * ends[0][1]


def split_places(text):
    """The places of a LIST's text, split where no bracket is around."""
    made, deep, start = [], 0, 0
    for at, sign in enumerate(text):
        deep += (sign == "(") - (sign == ")")
        if deep == 0 and text[at:at + 2] == ", ":
            made.append(text[start:at])
            start = at + 2
    return made + [text[start:]]


def many_places(text, around):
    """How many places the LIST's text has in all; more than twelve, where it is none."""
    names, many = [], 0
    for place in split_places(text):
        found = re.fullmatch(f"({NAME})( [0-9][^()]*?)?( \\((.*)\\))?", place)
        if not found or found[1] in names + around or len(around) > 3:
            return 99
        if found[2] and not told_by(found[2][1:]):
            return 99
        names.append(found[1])
        many += 1
        if found[3]:
            many += many_places(found[4], around + [found[1]])
    return many


def is_row(text):
    """Whether the text is a row, told in another way than by the program."""
    found = re.fullmatch(f"([^;\n]*)(; may hold ({NAME}(, {NAME})*))?", text)
    if not found:
        return False
    words = found[3].split(", ") if found[3] else []
    return words == sorted(set(words)) and many_places(found[1], []) <= 12


class Rows(unittest.TestCase):
    def assertNoRow(self, text):
        with self.subTest(text=text):
            with self.assertRaises(NoRow) as caught:
                read_row(text)
            self.assertIsInstance(caught.exception, TextError)
            self.assertIsInstance(caught.exception, StuffError)


class ReadBack(Rows):
    def test_rows_of_told_labels(self):
        for places, words, row, _ in WRITTEN:
            label = read_row(row)
            self.assertIsInstance(label, Label)
            self.assertEqual(label, Label(places, words))
            self.assertEqual(label.places(), places)
            self.assertEqual(label.may(), words)
            self.assertEqual(str(label), row)
            self.assertTrue(is_row(row))

    def test_the_example(self):
        label = read_row(EXAMPLE)
        self.assertEqual(label.places()[1], ("choc", ((1, 5), (1, 4)), (
            ("sugar", None, None), ("cocoa", ((1, 10), (1, 1)), None))))
        self.assertEqual(label.may(), ["egg", "nut"])
        self.assertEqual(str(label), EXAMPLE)

    def test_rows_of_drawn_labels(self):
        for seed in range(300):
            label = drawn_label(seed)
            again = read_row(str(label))
            self.assertEqual(again, label)
            self.assertEqual(str(again), str(label))

    def test_alike_just_where_the_rows_are(self):
        labels = [drawn_label(seed) for seed in range(120)]
        for one in labels:
            for other in labels:
                self.assertEqual(one == other, str(one) == str(other))

    def test_by_name(self):
        self.assertEqual(read_row(text="salt"), Label(plain("salt")))

    def test_told_fractions_of_any_size(self):
        end = (1, 7)
        for _ in range(11):
            end = times(end, end)
        for told in ((end, end), (end, (1, 2))):
            label = Label((("salt", told, None),))
            self.assertEqual(read_row(str(label)), label)

    def test_the_same_row_read_twice(self):
        one, other = read_row(EXAMPLE), read_row(EXAMPLE)
        one.may().clear()
        self.assertEqual(one, other)


class NoRows(Rows):
    def test_no_text(self):
        for thing in (None, 0, 1, True, b"salt", ["salt"], ("salt",), {"salt": 1}, {"salt"}, object(),
                      Label(plain("salt")), str):
            self.assertNoRow(thing)

    def test_an_empty_text(self):
        for text in ("", " ", "\n", ",", ", ", "()", "(", ")", ";", "; may hold ", "; may hold egg", "/", "1", "1/2"):
            self.assertNoRow(text)

    def test_blanks(self):
        for text in (" salt", "salt ", "salt,oil", "salt ,oil", "salt , oil", "salt,  oil", "salt  1/2", "salt 1/2 ",
                     "salt 1/2  to 1", "salt 1/2 to  1", "salt 1/2to 1", "salt 1/2 to1", "salt1/2", "salt(oil)",
                     "salt  (oil)", "salt ( oil)", "salt (oil )", "salt (oil) ", "salt (oil) , egg", "salt 1/2(oil)",
                     "salt 1 /2", "salt 1/ 2", "salt;  may hold egg", "salt ; may hold egg", "salt;may hold egg",
                     "salt; may hold  egg", "salt; may  hold egg", "salt; may hold egg ", "salt; may hold egg,nut",
                     "salt; may hold egg,  nut", "salt\n", "\nsalt", "salt,\noil", "salt (oil\n)"):
            self.assertNoRow(text)

    def test_fractions(self):
        for text in ("2/4", "10/20", "0/2", "0/1", "1/1", "1/0", "0/0", "3/3", "01", "01/2", "1/02", "00", "-0", "-1/2",
                     "-1", "+1/2", "1/-2", "1/", "/2", "/", "1//2", "1/2/3", "1.0", "0.5", "1e0", "x", "1/x", "x/2",
                     "1,2", "1_0/1_1", "3/2", "2", "1/2 to", "to 1/2", "1/2 to 1 to 1", "1/2 1", "1/2, 1",
                     "1/2 to 2/4", "0/1 to 1", "-1/2 to 1", "-0 to 1", "1/2 to 01", "1/2 to 1/1", "1/2 to 5/0"):
            self.assertNoRow("salt " + text)
            self.assertNoRow("oil, salt " + text + " (egg), flour")
            self.assertNoRow("oil (egg, salt " + text + "); may hold nut")

    def test_ends(self):
        for text in ("1/2 to 3/2", "1/2 to 2", "11/10", "1 to 11/10", "1/2 to 1/4", "1 to 0", "1/3 to 1/4",
                     "1/2 to 1/2", "0 to 0", "1 to 1"):
            self.assertNoRow("salt " + text)
            self.assertNoRow("oil (egg, salt " + text + ")")

    def test_names(self):
        for text in ("Salt", "salT", "abcdefghi", "sal1", "sa-t", "salt, ", ", salt", "salt, , oil", "salt, Oil",
                     "1salt", "salt, abcdefghi", "oil (Egg)", "salt; may hold Egg", "salt; may hold abcdefghi",
                     "s\u00e4lt"):
            self.assertNoRow(text)

    def test_a_name_twice(self):
        for text in ("salt, salt", "salt, oil, salt", "oil (egg, egg)", "salt, salt 1/2", "salt (oil), salt",
                     "oil (egg, nut, egg), salt"):
            self.assertNoRow(text)

    def test_a_name_of_a_place_around(self):
        for text in ("a (a)", "a (b (a))", "a (b (b))", "a (b (c (a)))", "a (b, a)", "b, a (c (b, c))"):
            self.assertNoRow(text)
        self.assertEqual(len(read_row("a (b), b (a)")), 4)

    def test_a_fifth_step(self):
        self.assertEqual(len(read_row("a (b (c (d)))")), 4)
        self.assertNoRow("a (b (c (d (e))))")
        self.assertNoRow("a (b (c (d (e (f)))))")

    def test_a_thirteenth_place(self):
        self.assertEqual(len(read_row(", ".join(LETTERS[:12]))), 12)
        self.assertNoRow(", ".join(LETTERS[:13]))
        self.assertNoRow("z (" + ", ".join(LETTERS[:12]) + ")")
        self.assertNoRow(", ".join(LETTERS))

    def test_words(self):
        for text in ("salt; may hold nut, egg", "salt; may hold egg, egg", "salt; may hold ", "salt; may hold",
                     "salt; may", "salt;", "salt; ", "salt; egg", "salt; may hold egg, ", "salt; may hold egg,",
                     "salt; may hold , egg", "salt; may hold egg; may hold nut", "salt; may hold egg; ",
                     "salt; may hold egg 1/2", "salt; may hold egg (nut)", "salt, may hold egg", "salt may hold egg",
                     "salt; May hold egg", "salt; may Hold egg", "oil (salt; may hold egg)", "salt: may hold egg"):
            self.assertNoRow(text)

    def test_brackets(self):
        for text in ("salt ()", "salt ( )", "salt (oil", "salt oil)", "salt (oil))", "salt ((oil))", "salt (oil) (egg)",
                     "(salt)", "salt (,)", "salt (oil,)", "salt (oil, )", "salt (oil)egg", "salt (oil) egg", "salt [oil]",
                     "salt (oil) 1/2", "salt (oil, egg", "salt )oil(", "salt (oil; may hold egg", "salt (oil, egg))"):
            self.assertNoRow(text)

    def test_many_brackets(self):
        for many in (11, 12, 20):
            self.assertNoRow("a (" * many + "b" + ")" * many)
            self.assertNoRow("a (" * many)
            self.assertNoRow("a " + "(" * many + ")" * many)

    def test_long_texts(self):
        self.assertNoRow("a" * 4000)
        self.assertNoRow("a, " * 1333 + "a")
        self.assertNoRow("a 2/" + "1" * 3000 + "0")
        self.assertNoRow("\n" * 4000)


class ChangedRows(Rows):
    """Each sign left out, put in, exchanged: what then is no row is refused, what still is one is read."""

    def assertJudged(self, text):
        if is_row(text):
            self.assertEqual(str(read_row(text)), text)
        else:
            self.assertNoRow(text)

    def changed(self, row):
        for at in range(len(row) + 1):
            yield row[:at] + row[at + 1:]
            yield row[:at] + row[at + 1:at + 2] + row[at:at + 1] + row[at + 2:]
            for sign in " ,();/-1024atoZ\n":
                yield row[:at] + sign + row[at:]
                yield row[:at] + sign + row[at + 1:]

    def test_written_rows(self):
        for _, _, row, _ in WRITTEN:
            for text in self.changed(row):
                self.assertJudged(text)

    def test_drawn_rows(self):
        for seed in range(12):
            for text in self.changed(str(drawn_label(seed))):
                self.assertJudged(text)

    def test_all_short_texts(self):
        texts = [""]
        for _ in range(4):
            texts = [text + sign for text in texts for sign in " ,()ab01"]
            for text in texts:
                self.assertJudged(text)

    def test_both_ends_told_alike(self):
        self.assertEqual(read_row("salt 0 to 1"), Label((("salt", ALL, None),)))


if __name__ == "__main__":
    unittest.main()
