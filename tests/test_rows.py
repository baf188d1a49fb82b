"""Point 4: the rows of a station's text, written and read, and the row with which any other text is refused."""

import unittest
from itertools import permutations

from signalhouse.errors import BadLayout, HouseError
from signalhouse.reading import layout_text, read_layout
from tests.stations import FORK, GOOD, joined, parts, refused_row

SECTIONS = ("section a", "section b", "section c")
POINTS = ("point p in a", "point q in a", "point r in b")
LINKS = ("link a.1 b.0 when p n", "link c.1 a.1 when p r and q n", "link b.1 c.0")
SIGNALS = ("signal x at a.1", "signal y at b.1", "signal z at a.0")


class ReadAgain(unittest.TestCase):
    def test_what_is_written_is_read_to_the_same_station(self):
        for text in GOOD:
            layout = read_layout(text)
            written = layout_text(layout)
            self.assertEqual(written, text)
            again = read_layout(written)
            self.assertEqual(parts(again), parts(layout))
            self.assertEqual(layout_text(again), text)
            self.assertEqual(parts(read_layout(layout_text(again))), parts(layout))

    def test_each_sort_stands_in_whatever_order(self):
        sorts = (SECTIONS, POINTS, LINKS, SIGNALS)
        for place in range(4):
            for shuffled in permutations(sorts[place]):
                chosen = [*sorts[:place], shuffled, *sorts[place + 1:]]
                text = joined(*[row for sort in chosen for row in sort])
                self.assertEqual(layout_text(read_layout(text)), text)

    def test_other_orders_are_other_stations(self):
        one = read_layout(joined(*SECTIONS, "link a.0 b.0", "link b.1 c.0"))
        self.assertNotEqual(parts(one), parts(read_layout(joined(*SECTIONS, "link b.1 c.0", "link a.0 b.0"))))
        self.assertNotEqual(parts(one), parts(read_layout(joined(*SECTIONS, "link b.0 a.0", "link b.1 c.0"))))

    def test_every_sort_but_sections_may_be_missing(self):
        plain = ("link a.1 b.0",)
        for middle in ((), POINTS, plain, SIGNALS, POINTS + LINKS, POINTS + SIGNALS, plain + SIGNALS):
            text = joined(*SECTIONS, *middle)
            self.assertEqual(layout_text(read_layout(text)), text)

    def test_wants_stand_by_rising_names(self):
        ahead = ("section a", "section b", "point p2 in a", "point p10 in a", "point 9 in b", "point pp in b")
        for good in ("when p10 n and p2 n", "when 9 r and p10 n and p2 r and pp n", "when 9 n and pp n"):
            text = joined(*ahead, f"link a.1 b.0 {good}")
            self.assertEqual(layout_text(read_layout(text)), text)
        for bad in ("when p2 n and p10 n", "when p10 n and 9 n", "when 9 n and pp n and p2 n", "when pp r and p2 r",
                    "when p2 n and p2 n", "when p2 n and p2 r", "when 9 n and p2 n and p2 n"):
            self.assertEqual(refused_row(joined(*ahead, f"link a.1 b.0 {bad}")), 6, bad)


class Refused(unittest.TestCase):
    def test_a_row_of_a_sort_behind_its_place(self):
        late = {"section": "section d", "point": "point t in c", "link": "link c.0 b.1", "signal": "signal t at c.0"}
        sorts = {"section": SECTIONS, "point": POINTS, "link": LINKS[:2], "signal": SIGNALS}
        order = list(sorts)
        for at, sort in enumerate(order):
            for last in order[at:]:
                ahead = [row for name in order[:order.index(last) + 1] for row in sorts[name]]
                text = joined(*ahead, late[sort])
                if last == sort:
                    self.assertEqual(layout_text(read_layout(text)), text)
                else:
                    self.assertEqual(refused_row(text), len(ahead), text)

    def test_a_sort_behind_a_missing_one(self):
        self.assertEqual(refused_row("section a\nsignal s at a.0\npoint p in a"), 2)
        self.assertEqual(refused_row("section a\nsection b\nlink a.0 b.0\nsection c"), 3)
        self.assertEqual(refused_row("section a\nsection b\nsignal s at a.0\nlink a.0 b.0"), 3)
        self.assertEqual(refused_row("section a\nsignal s at a.0\nsection b"), 2)

    def test_names_that_are_nobodys(self):
        for row in ("point t in d", "point t in p", "point t in t", "link d.0 b.1", "link b.1 d.0", "link p.0 b.1",
                    "link c.0 b.1 when t n", "link c.0 b.1 when c n", "link c.0 b.1 when r n and t n"):
            ahead = SECTIONS + POINTS
            self.assertEqual(refused_row(joined(*ahead, row)), len(ahead), row)
        for row in ("signal t at d.0", "signal t at p.0", "signal t at x.0", "signal t at t.0"):
            ahead = SECTIONS + POINTS + LINKS + SIGNALS
            self.assertEqual(refused_row(joined(*ahead, row)), len(ahead), row)

    def test_names_that_come_only_behind(self):
        self.assertEqual(refused_row("section a\npoint p in b\nsection b"), 1)
        self.assertEqual(refused_row("section a\nlink a.0 b.0\nsection b"), 1)
        self.assertEqual(refused_row("section a\nsection b\nlink a.0 b.0 when p n\npoint p in a"), 2)

    def test_blanks_too_many_or_too_few(self):
        for at, row in enumerate(FORK.split("\n")):
            rows = FORK.split("\n")
            blanks = [place for place, sign in enumerate(row) if sign == " "]
            wrong = [" " + row, row + " ", row.replace(" ", ""), row.replace(" ", "  "), row.replace(" ", "\t")]
            wrong += [row[:place] + " " + row[place:] for place in blanks]
            wrong += [row[:place] + row[place + 1:] for place in blanks]
            wrong += [row[:place] + "\t" + row[place + 1:] for place in blanks]
            wrong += [row[:place] + "\u00a0" + row[place + 1:] for place in blanks]
            for bad in wrong:
                self.assertEqual(refused_row(joined(*rows[:at], bad, *rows[at + 1:])), at, bad)

    def test_an_empty_row(self):
        rows = FORK.split("\n")
        for at in range(len(rows) + 1):
            self.assertEqual(refused_row(joined(*rows[:at], "", *rows[at:])), at)
            self.assertEqual(refused_row(joined(*rows[:at], " ", *rows[at:])), at)

    def test_an_empty_text(self):
        for text in ("", " ", "\n", "\n\n", "\nsection a"):
            self.assertEqual(refused_row(text), 0)

    def test_a_line_end_at_the_end(self):
        for text in GOOD:
            self.assertEqual(refused_row(text + "\n"), len(text.split("\n")))
            self.assertEqual(refused_row(text + "\n\n"), len(text.split("\n")))

    def test_other_line_ends(self):
        for end in ("\r\n", "\r", "\v", "\f", "\x1c", "\x85", "\u2028", ";", "\\n"):
            self.assertEqual(refused_row(FORK.replace("\n", end)), 0)
            self.assertEqual(refused_row("section a\nsection b" + end), 1)

    def test_rows_that_are_written_otherwise(self):
        for row in ("Section d", "sections d", "section", "section d e", "d", "section d.0", "# d", "a"):
            self.assertEqual(refused_row(joined(*SECTIONS, row)), 3, row)
        for row in ("point t", "point t in", "point t at a", "point t IN a", "point t in a b", "point t in a.0",
                    "point in a", "Point t in a", "point"):
            self.assertEqual(refused_row(joined(*SECTIONS, row)), 3, row)
        for row in ("link", "link a.0", "link a.0 b.1 c.1", "link a.0 to b.1", "Link a.0 b.1", "a.0 b.1", "link a b",
                    "link a.0 b.1 when", "link a.0 b.1 when p", "link a.0 b.1 p n", "link a.0 b.1 and p n",
                    "link a.0 b.1 when p n and", "link a.0 b.1 when p n and q", "link a.0 b.1 when p n q n",
                    "link a.0 b.1 when p n when q n", "link a.0 b.1 when p n, q n", "link a.0 b.1 When p n",
                    "link a.0 b.1 when n p", "link a.0 b.1 when p n or q n", "link a.0 b.1 when p n and q n and",
                    "link a.0 b.1 when p n and q n when r n", "link a.0 b.1 when and p n"):
            self.assertEqual(refused_row(joined(*SECTIONS, *POINTS, row)), 6, row)
        for row in ("signal", "signal t", "signal t at", "signal t in c.0", "signal t at c", "signal t at c.0 c.1",
                    "signal t At c.0", "signal at c.0", "Signal t at c.0"):
            self.assertEqual(refused_row(joined(*SECTIONS, *POINTS, *LINKS, *SIGNALS, row)), 12, row)

    def test_the_first_of_several_wrong_rows_is_named(self):
        self.assertEqual(refused_row("section a\nsection A\nsection a"), 1)
        self.assertEqual(refused_row("section a\nsection a\n\n"), 1)
        self.assertEqual(refused_row("section a\n\nsection a"), 1)
        self.assertEqual(refused_row("section a\nsection b\nlink a.0 c.0\nsection a"), 2)
        self.assertEqual(refused_row("signal s at a.0\nsection a"), 0)

    def test_a_row_may_be_wrong_only_behind_the_rows_ahead_of_it(self):
        self.assertEqual(refused_row("section a\nsection b\nsection c\nlink a.0 b.0\nlink b.0 c.0"), 4)
        text = "section a\nsection b\nsection c\nlink b.0 c.0"
        self.assertEqual(layout_text(read_layout(text)), text)


class NoOtherRefusal(unittest.TestCase):
    def check(self, text):
        """A text is read and written as it was, or refused at the first row that can't follow those ahead."""
        rows = text.split("\n")
        try:
            self.assertEqual(layout_text(read_layout(text)), text)
        except HouseError as error:
            self.assertIs(type(error), BadLayout)
            self.assertIn(error.row, range(len(rows)))
            self.assertEqual(refused_row(joined(*rows[:error.row + 1])), error.row)
            if error.row > 0:
                self.assertIsNone(refused_row(joined(*rows[:error.row])))

    def test_texts_with_one_sign_changed(self):
        for text in GOOD:
            for at in range(len(text) + 1):
                self.check(text[:at])
                self.check(text[at:])
                self.check(text[:at] + text[at + 1:])
                for sign in " \n\t.019anrpA_\u00e9\x00":
                    self.check(text[:at] + sign + text[at:])
                    self.check(text[:at] + sign + text[at + 1:])

    def test_texts_with_one_row_or_word_changed(self):
        for text in GOOD:
            rows = text.split("\n")
            for at, row in enumerate(rows):
                self.check(joined(*rows[:at], *rows[at + 1:]))
                for to, other in enumerate(rows):
                    swapped = list(rows)
                    swapped[at], swapped[to] = other, row
                    self.check(joined(*swapped))
                    self.check(joined(*rows[:to], row, *rows[to:]))
                words = row.split(" ")
                for place in range(len(words)):
                    for word in ("", "a", "in", "when", "and", "main", "main.0", "p1", "n", "r", "link"):
                        changed = " ".join([*words[:place], word, *words[place + 1:]])
                        self.check(joined(*rows[:at], changed, *rows[at + 1:]))
                    self.check(joined(*rows[:at], " ".join(words[:place]), *rows[at + 1:]))


if __name__ == "__main__":
    unittest.main()
