"""Point 17: the book of a desk, its text, and its being done again."""

import copy
import unittest

from signalhouse import book
from signalhouse.book import book_text, done_again
from signalhouse.desks import Desk
from signalhouse.errors import BadBook, HouseError, TooMany
from signalhouse.reading import read_layout
from tests.desk_case import desk_of, do, done, seen, signals_of
from tests.stations import FORK, LINE, LONG, LOOP, TURNOFF, joined
from tests.test_ways import chain

# Every kind of deed, some of which change nothing.
DAY = (
    "come t west.0", "lay 0", "throw w n", "back 0", "tick 12", "back 0", "tick 17", "tick 1", "throw e r", "lay 0",
    "head t", "tail t", "throw e n", "lay 2", "head t", "tail t", "lay 1", "back 1", "throw w r", "throw w n",
    "leave t", "tick 999999", "come abcdef west.0", "come t east.1",
)


def again(text, rows):
    return done_again(read_layout(text), rows)


def bad_row(text, rows):
    """The row with which a book is refused, None where it is done again."""
    try:
        again(text, rows)
    except BadBook as bad:
        return bad.row
    return None


class Kept(unittest.TestCase):
    def test_no_deeds(self):
        for text in (LOOP, "section a"):
            self.assertEqual(book_text(desk_of(text)), "")

    def test_a_row_for_each_deed(self):
        desk = desk_of(LOOP)
        rows = []
        for deed in DAY:
            do(desk, deed)
            rows.append(deed)
            self.assertEqual(book_text(desk), joined(*rows))

    def test_each_sort_of_row(self):
        desk = desk_of("section a\nsection b\npoint p in a\nlink b.0 a.1 when p r\nsignal s at a.1")
        desk.throw("p", "r")
        desk.come("train", "a", 0)
        desk.lay(0)
        desk.take_back(0)
        desk.tick(30)
        desk.lay(0)
        desk.head("train")
        desk.tail("train")
        desk.leave("train")
        desk.come("x", "b", 1)
        self.assertEqual(book_text(desk), "throw p r\ncome train a.0\nlay 0\nback 0\ntick 30\nlay 0\nhead train\n"
                                          "tail train\nleave train\ncome x b.1")

    def test_what_is_refused_is_not_kept(self):
        desk = done(LOOP, "come t west.0", "lay 0")
        for deed in ("lay 0", "lay 1", "lay 8", "back 1", "throw w r", "throw x r", "come t west.0", "come u west.0",
                     "come u one.0", "head u", "tail t", "leave t"):
            with self.assertRaises(HouseError):
                do(desk, deed)
        self.assertEqual(book_text(desk), "come t west.0\nlay 0")

    def test_asking_is_no_deed(self):
        desk = desk_of(LOOP)
        desk.shows("ws")
        desk.standing()
        book_text(desk)
        self.assertEqual(book_text(desk), "")

    def test_where_it_is_defined(self):
        self.assertEqual((book_text.__module__, done_again.__module__), (book.__name__, book.__name__))


class DoneAgain(unittest.TestCase):
    def check(self, text, rows):
        """A book is done again, cut off at any row, and each time leads to where the desk stood then."""
        desk = desk_of(text)
        for at in range(len(rows) + 1):
            cut = joined(*rows[:at])
            repeated = again(text, cut)
            self.assertIs(type(repeated), Desk)
            self.assertEqual(seen(repeated, signals_of(text)), seen(desk, signals_of(text)))
            self.assertEqual(book_text(repeated), cut)
            if at < len(rows):
                do(desk, rows[at])

    def test_cut_off_at_any_row(self):
        self.check(LOOP, DAY)
        self.check(LINE, ("come t a.0", "lay 0", "head t", "head t", "lay 1", "back 1", "tick 29", "tail t", "back 1",
                          "tick 2", "tail t", "lay 1", "head t", "tail t", "leave t"))
        self.check(LONG, ("come t a.0", "lay 0", "lay 2", "lay 3", *["head t"] * 7, *["tail t"] * 7, "leave t"))
        self.check(TURNOFF, ("come t a.0", "lay 0", "head t", "head t", "tail t", "throw p r", "come u a.0", "lay 1",
                             "back 1", "tick 7"))

    def test_no_deeds(self):
        for text in (LOOP, "section a"):
            desk = again(text, "")
            self.assertEqual(desk.standing(), desk_of(text).standing())
            self.assertEqual(book_text(desk), "")

    def test_the_desk_goes_on(self):
        desk = again(LOOP, "come t west.0\nlay 0\nhead t")
        do(desk, "tail t")
        self.assertEqual(book_text(desk), "come t west.0\nlay 0\nhead t\ntail t")
        self.assertEqual(desk.standing(), ({"w": "n", "e": "n"}, {}, {"t": [("one", 0)]}, {}))

    def test_desks_do_not_touch_each_other(self):
        layout = read_layout(LOOP)
        before = copy.deepcopy(vars(layout))
        first, second = done_again(layout, "lay 0"), done_again(layout, "lay 0")
        do(first, "back 0")
        self.assertEqual(second.standing()[1], {"one": 0})
        self.assertEqual(book_text(second), "lay 0")
        self.assertEqual(vars(layout), before)

    def test_numbers_and_names_at_their_longest(self):
        for rows in ("tick 1", "tick 10", "tick 999999", "lay 0", "come a west.0", "come abcdef west.0",
                     "come lay west.0\nlay 0\nhead lay\ntail lay"):
            self.assertEqual(book_text(again(LOOP, rows)), rows)


class Refused(unittest.TestCase):
    def check(self, row, ahead=("come t west.0", "lay 0")):
        """A row is refused, and named with its place, whatever stands behind it."""
        self.assertIsNone(bad_row(LOOP, joined(*ahead)))
        for behind in ((), ("tick 1",), ("nothing", "tick 1"), (row,)):
            with self.assertRaises(HouseError) as caught:
                again(LOOP, joined(*ahead, row, *behind))
            self.assertIs(type(caught.exception), BadBook)
            self.assertIsInstance(caught.exception, ValueError)
            self.assertEqual(caught.exception.row, len(ahead), row)
        self.assertEqual(bad_row(LOOP, joined(row, *ahead)), 0, row)

    def test_words(self):
        for row in ("Lay 2", "LAY 2", "lays 2", "la 2", "route 2", "take_back 0", "take back 0", "2", "t", "lay",
                    "back", "tick", "throw", "come", "head", "tail", "leave", "lay 2 2", "back 0 0", "tick 1 1",
                    "throw e", "throw e r r", "throw r e", "come u", "come u east.1 1", "come u east 1",
                    "come u to east.1", "come east.1 u", "head", "head t t", "head t one.0", "tail", "leave",
                    "leave t west.0", "shows ws", "standing", "Tick 1", "ticks 1", "Throw e r", "Come u east.1",
                    "Head t"):
            self.check(row)

    def test_blanks(self):
        for row in ("lay 2", "back 0", "tick 1", "throw e r", "come u east.1", "head t"):
            places = [at for at, sign in enumerate(row) if sign == " "]
            self.assertIsNone(bad_row(LOOP, joined("come t west.0", "lay 0", row)))
            for bad in (" " + row, row + " ", row + "\t", "\t" + row, row + "\r", row.replace(" ", "\t"),
                        row.replace(" ", "\u00a0"), *[row[:at] + " " + row[at:] for at in places],
                        *[row[:at] + row[at + 1:] for at in places]):
                self.check(bad)

    def test_numbers(self):
        for word in ("lay", "back", "tick"):
            for number in ("", "00", "000000", "01", "002", "0000002", "1000000", "9999999", "+2", "-2", "-0", "2.0",
                           "2.", "0x2", "1_0", "two", "n", "\u0662", "\u00b2", "\uff12", "2,", "'2'", "2 "):
                self.check(f"{word} {number}")
        self.check("lay 02")
        self.check("tick 0")

    def test_numbers_of_six_figures_are_written_so(self):
        self.assertIsNone(bad_row(LOOP, "tick 100000\ntick 999999"))
        # There is no such route, so that these deeds are refused.
        self.check("lay 100000")
        self.check("back 999999")

    def test_names_of_trains(self):
        for name in ("", "abcdefg", "T", "tT", "t1", "1", "t_u", "t-u", "t.u", "\u00e9", "\u00df", "t\u0301", "'t'",
                     "\u0430"):
            self.check(f"come {name} east.1")
            for word in ("head", "tail", "leave"):
                self.check(f"{word} {name}")

    def test_ends(self):
        for end in ("", "east", "east.", "east.2", "east.01", "east.-1", "east1", ".1", "east.1.1", "East.1", "x.1",
                    "ws.1", "e.1", "east.0", "one.0", "one.1", "east,1", "east.\u0661", "east.n", "east.None"):
            self.check(f"come u {end}")

    def test_points_and_lies(self):
        for rest in ("x r", "west r", "ws r", "W r", "e R", "e x", "e 0", "e nr", " r", "e "):
            self.check(f"throw {rest}")

    def test_an_empty_row(self):
        for row in ("", " ", "  ", "\t"):
            self.check(row)
        self.assertEqual(bad_row(LOOP, "\n"), 0)
        self.assertEqual(bad_row(LOOP, "\nlay 0"), 0)
        self.assertEqual(bad_row(LOOP, " "), 0)

    def test_a_line_end_at_the_end(self):
        for at in range(1, len(DAY) + 1):
            self.assertEqual(bad_row(LOOP, joined(*DAY[:at]) + "\n"), at)
            self.assertEqual(bad_row(LOOP, joined(*DAY[:at]) + "\n\n"), at)

    def test_other_line_ends(self):
        for end in ("\r\n", "\r", "\v", "\f", "\x85", "\u2028", ";"):
            self.assertEqual(bad_row(LOOP, f"lay 0{end}lay 2"), 0)

    def test_deeds_that_are_refused(self):
        for row in ("lay 0", "lay 1", "lay 8", "back 1", "back 8", "throw w r", "throw x n", "come t east.1",
                    "come u west.0", "come u east.0", "head u", "tail t", "tail u", "leave t", "leave u"):
            self.assertEqual(bad_row(LOOP, joined("come t west.0", "lay 0", row)), 2, row)
        self.assertEqual(bad_row(LOOP, "come t west.0\nhead t"), 1)
        self.assertEqual(bad_row(LOOP, "come t west.0\nlay 0\nback 0\ntick 29\nhead t"), 4)
        self.assertEqual(bad_row(LOOP, "come t west.0\nlay 0\nback 0\ntick 30\nback 0"), 4)

    def test_the_first_of_several_wrong_rows(self):
        self.assertEqual(bad_row(LOOP, "lay 0\nlay 0\nlay 00"), 1)
        self.assertEqual(bad_row(LOOP, "lay 0\nlay 00\nlay 0"), 1)
        self.assertEqual(bad_row(LOOP, "lay 0\nhead t\n\nlay"), 1)
        self.assertEqual(bad_row(LOOP, "head t\n"), 0)

    def test_a_book_with_a_row_too_few_or_twice(self):
        # Without the train, route 0 doesn't wait, so that it isn't there to be taken back again.
        self.assertEqual(bad_row(LOOP, joined(*DAY[1:])), 4)
        self.assertEqual(bad_row(LOOP, joined(DAY[0], *DAY)), 1)

    def test_the_book_of_another_station(self):
        self.assertEqual(bad_row(LINE, joined(*DAY)), 0)
        self.assertEqual(bad_row(FORK, "lay 0\nlay 3\nlay 4"), 2)
        self.assertEqual(bad_row("section a", "tick 5\nlay 0"), 1)

    def test_a_station_with_too_many_routes(self):
        for rows in ("", "lay 0", "nothing"):
            with self.assertRaises(HouseError) as caught:
                again(chain(6), rows)
            self.assertIs(type(caught.exception), TooMany)


if __name__ == "__main__":
    unittest.main()
