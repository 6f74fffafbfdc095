"""Lines, written and read [10]."""

import unittest

from samples import LETTERS, WRITTEN, drawn_label, plain

from stufflists.errors import NoLine, NoRow, StuffError, TextError
from stufflists.fractions import times
from stufflists.labels import Label
from stufflists.linetexts import lines_of, read_lines
from stufflists.rowtexts import read_row

# Lines that are none wherever they stand.
WRONG_LINES = (
    "", " ", "  ", " salt", "salt ", "salt  1/2", "Salt", "abcdefghi", "salt1", "1", "1/2", "salt,", "salt, oil",
    "salt 1/2 ", "salt 2/4", "salt 1/1", "salt 0/2", "salt 1/0", "salt 01", "salt -0", "salt -1/2", "salt 3/2",
    "salt 1/2 to 1/2", "salt 1 to 1/2", "salt 1/2 to 3/2", "salt 1/2 to", "salt to 1/2", "salt to", "salt (oil)",
    "salt; may hold egg", "salt 1/2 1", "may hold", "may  hold egg", "may hold  egg", "may hold egg ", "may hold ",
    " may hold egg", "  may hold egg", "may hold Egg", "may hold nut, egg", "may hold egg, egg", "may hold egg,nut",
    "may hold egg, ", "may hold , egg", "May hold egg", "\t", "\tsalt", "salt\r",
)


class Lines(unittest.TestCase):
    def assertNoLine(self, line, text):
        with self.subTest(text=text):
            with self.assertRaises(NoLine) as caught:
                read_lines(text)
            self.assertEqual(caught.exception.line, line)
            self.assertIs(type(caught.exception.line), int)
            self.assertIsInstance(caught.exception, TextError)
            self.assertIsInstance(caught.exception, StuffError)


class Written(Lines):
    def test_lines_of_told_labels(self):
        for places, words, _, lines in WRITTEN:
            self.assertEqual(lines_of(Label(places, words)), lines)

    def test_read_back(self):
        for places, words, _, lines in WRITTEN:
            label = read_lines(lines)
            self.assertIsInstance(label, Label)
            self.assertEqual(label, Label(places, words))
            self.assertEqual(label.places(), places)
            self.assertEqual(label.may(), words)

    def test_drawn_labels(self):
        for seed in range(300):
            label = drawn_label(seed)
            again = read_lines(lines_of(label))
            self.assertEqual(again, label)
            self.assertEqual(lines_of(again), lines_of(label))
            self.assertEqual(str(again), str(label))

    def test_alike_just_where_the_lines_are(self):
        labels = [drawn_label(seed) for seed in range(120)]
        for one in labels:
            for other in labels:
                self.assertEqual(one == other, lines_of(one) == lines_of(other))

    def test_by_names(self):
        self.assertEqual(lines_of(label=Label(plain("salt"))), "salt\n")
        self.assertEqual(read_lines(text="salt\n"), Label(plain("salt")))

    def test_told_fractions_of_any_size(self):
        end = (1, 7)
        for _ in range(11):
            end = times(end, end)
        label = Label((("salt", (end, (1, 2)), None),), ["egg"])
        self.assertEqual(read_lines(lines_of(label)), label)


class NoLines(Lines):
    def test_no_text(self):
        for thing in (None, 0, 1, True, b"salt\n", ["salt\n"], ("salt\n",), {"salt\n": 1}, object(),
                      Label(plain("salt")), str):
            self.assertNoLine(0, thing)

    def test_an_empty_text(self):
        self.assertNoLine(1, "")

    def test_at_the_first_line(self):
        for line in WRONG_LINES:
            self.assertNoLine(1, line + "\n")
            self.assertNoLine(1, line + "\noil\n")
            self.assertNoLine(1, line + "\nmay hold egg\n")
            self.assertNoLine(1, line)

    def test_at_a_middle_line(self):
        for line in WRONG_LINES:
            self.assertNoLine(2, "oil\n" + line + "\nrye\n")
            self.assertNoLine(3, "oil 1/2\n  rye\n" + line + "\n  malt\nmay hold egg\n")

    def test_at_the_last_line(self):
        for line in WRONG_LINES:
            self.assertNoLine(2, "oil\n" + line + "\n")
            self.assertNoLine(4, "oil 1/2\n  rye\nflour\n" + line + "\n")
            self.assertNoLine(3, "oil\nrye\n" + line + "x")

    def test_words_alone(self):
        self.assertNoLine(1, "may hold egg\n")
        self.assertNoLine(1, "may hold egg\nsalt\n")

    def test_number_of_blanks(self):
        self.assertNoLine(1, "  salt\n")
        self.assertNoLine(1, "  salt\n  oil\n")
        for blanks in (1, 3, 4, 5, 6, 8):
            self.assertNoLine(2, "salt\n" + " " * blanks + "oil\n")
        for blanks in (1, 3, 5, 6, 7, 8):
            self.assertNoLine(3, "salt\n  rye\n" + " " * blanks + "oil\n")
            self.assertNoLine(3, "salt\n  rye\n" + " " * blanks + "oil\nflour\n")
        for blanks in (0, 2, 4):
            self.assertEqual(len(read_lines("salt\n  rye\n" + " " * blanks + "oil\n")), 3)

    def test_a_step_of_two(self):
        self.assertNoLine(2, "salt\n    oil\n")
        self.assertNoLine(3, "salt\n  rye\n      oil\n")
        self.assertNoLine(4, "salt\n  rye\nflour\n    oil\n  malt\n")

    def test_steps_back_of_any_size(self):
        self.assertEqual(str(read_lines("a\n  b\n    c\n      d\ne\n")), "a (b (c (d))), e")
        self.assertEqual(str(read_lines("a\n  b\n    c\n      d\n  e\n")), "a (b (c (d)), e)")

    def test_a_place_behind_the_words(self):
        self.assertNoLine(3, "salt\nmay hold egg\noil\n")
        self.assertNoLine(3, "salt\nmay hold egg\n  oil\n")
        self.assertNoLine(3, "salt\nmay hold egg\nmay hold egg\n")
        self.assertNoLine(3, "salt\nmay hold egg\nmay hold nut\n")
        self.assertNoLine(3, "salt\nmay hold egg\nmay\n")
        self.assertNoLine(3, "salt\nmay hold egg\n\n")

    def test_no_line_feed_at_the_end(self):
        self.assertNoLine(1, "salt")
        self.assertNoLine(2, "salt\noil")
        self.assertNoLine(2, "salt\n  oil")
        self.assertNoLine(2, "salt\nmay hold egg")
        self.assertNoLine(3, "salt\nmay hold egg\n ")
        self.assertNoLine(4, "salt\n  oil\n    rye 1/2\nflour")

    def test_an_empty_line(self):
        self.assertNoLine(1, "\n")
        self.assertNoLine(1, "\nsalt\n")
        self.assertNoLine(2, "salt\n\n")
        self.assertNoLine(2, "salt\n\noil\n")
        self.assertNoLine(3, "salt\noil\n\n")

    def test_names_twice_and_around(self):
        self.assertNoLine(2, "salt\nsalt\n")
        self.assertNoLine(3, "salt\noil\nsalt\nrye\n")
        self.assertNoLine(2, "salt\n  salt\n")
        self.assertNoLine(4, "salt\n  oil\n    rye\n      salt\n")
        self.assertNoLine(5, "salt\n  oil\n    rye\nflour\n  flour\n")

    def test_a_fifth_step(self):
        self.assertNoLine(5, "a\n  b\n    c\n      d\n        e\n")
        self.assertNoLine(5, "a\n  b\n    c\n      d\n        e\nf\n")

    def test_a_thirteenth_place(self):
        self.assertEqual(len(read_lines("\n".join(LETTERS[:12]) + "\n")), 12)
        self.assertNoLine(13, "\n".join(LETTERS[:13]) + "\n")
        self.assertNoLine(13, "\n".join(LETTERS) + "\n")
        self.assertNoLine(13, "\n  ".join(LETTERS[:13]) + "\n")

    def test_a_wrong_line_ahead_of_another_wrong_one(self):
        self.assertNoLine(1, "Salt\n    oil\n")
        self.assertNoLine(2, "salt\nOil\nRye\nsalt")
        self.assertNoLine(2, "salt\nsalt\nsalt\n")
        self.assertNoLine(3, "salt\nmay hold egg\nOil\n\nflour")
        self.assertNoLine(1, "\n\n\n")

    def test_long_texts(self):
        self.assertNoLine(1, "\n" * 4000)
        self.assertNoLine(1, " " * 4000)
        self.assertNoLine(2, "a\n" * 2000)


class FirstLines(Lines):
    """The number is the least k such that the first k lines are not the lines of a label."""

    def is_lines(self, text):
        """Whether these are lines of a label, by the row that says the same."""
        rows = text.split("\n")
        if rows.pop() != "" or not rows:
            return False
        words = "; " + rows.pop() if rows[-1].startswith("may hold ") else ""
        deeps = [(len(row) - len(row.lstrip(" "))) / 2 for row in rows]
        row, deep = "", 0
        for at, line in enumerate(rows):
            if deeps[at] > deep + 1 or deeps[at] % 1 or (at == 0 and deeps[at]):
                return False
            step = int(deep - deeps[at])
            row += "" if at == 0 else " (" if step < 0 else ")" * step + ", "
            if set(line) & set(",;()") or line.endswith(" "):
                return False
            row += line.lstrip(" ")
            deep = int(deeps[at])
        try:
            read_row(row + ")" * deep + words)
        except NoRow:
            return False
        return True

    def first_wrong(self, text):
        feeds = [at + 1 for at, sign in enumerate(text) if sign == "\n"]
        for k, end in enumerate(feeds, 1):
            if not self.is_lines(text[:end]):
                return k
        return len(feeds) + 1 if not text.endswith("\n") else None

    def assertJudged(self, text):
        line = self.first_wrong(text)
        if line is None:
            self.assertEqual(lines_of(read_lines(text)), text)
        else:
            self.assertNoLine(line, text)

    def changed(self, text):
        for at in range(len(text) + 1):
            yield text[:at] + text[at + 1:]
            yield text[:at] + text[at + 1:at + 2] + text[at:at + 1] + text[at + 2:]
            for sign in " ,(;/-102amZ\n":
                yield text[:at] + sign + text[at:]
                yield text[:at] + sign + text[at + 1:]

    def test_changed_lines(self):
        for _, _, _, lines in WRITTEN:
            for text in self.changed(lines):
                self.assertJudged(text)

    def test_changed_lines_of_drawn_labels(self):
        for seed in range(4):
            for text in self.changed(lines_of(drawn_label(seed))):
                self.assertJudged(text)

    def test_exchanged_left_out_and_doubled_lines(self):
        for seed in range(60):
            rows = lines_of(drawn_label(seed)).splitlines(keepends=True)
            for at in range(len(rows)):
                self.assertJudged("".join(rows[:at] + rows[at + 1:]))
                self.assertJudged("".join(rows[:at] + [rows[at]] + rows[at:]))
                self.assertJudged("".join(rows[:at] + rows[at + 1:at + 2] + rows[at:at + 1] + rows[at + 2:]))
                self.assertJudged("".join(rows[:at] + ["  " + rows[at]] + rows[at + 1:]))
                self.assertJudged("".join(rows[:at] + [rows[at].removeprefix("  ")] + rows[at + 1:]))


if __name__ == "__main__":
    unittest.main()
