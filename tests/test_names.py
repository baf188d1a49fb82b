"""Point 3: names and how many of each sort there may be."""

import unittest
from itertools import product

from signalhouse.layouts import NAME_SIGNS
from signalhouse.reading import layout_text, read_layout
from tests.stations import joined, names, refused_row

BAD_NAMES = (
    "", "abcdefg", "1234567", "A", "aB", "a_b", "a-b", "a.b", "a.", ".a", "a\tb", "a\r", "\u00e9", "\u00df", "a\u0301",
    "\u00b2", "\u0663", "\uff41", "\u0131", "\u2028", "a,", "'a'", "*", "\x00",
)
GOOD_NAMES = ("x", "7", "0", "abcdef", "123456", "a1b2c3", "zz9", "000000")


def read_again(text):
    return layout_text(read_layout(text))


class Names(unittest.TestCase):
    def test_names_have_one_to_six_small_letters_and_figures(self):
        for name in GOOD_NAMES:
            for text in (
                f"section {name}",
                f"section s0\npoint {name} in s0",
                f"section s0\nsignal {name} at s0.0",
                f"section {name}\nsection s0\npoint s1 in {name}\nlink {name}.0 s0.0 when s1 r\nsignal s2 at {name}.1",
                f"section s0\nsection s1\npoint {name} in s1\nlink s0.1 s1.1 when {name} n",
            ):
                self.assertEqual(read_again(text), text)

    def test_every_small_letter_and_figure_may_stand_in_a_name(self):
        self.assertEqual(NAME_SIGNS, "abcdefghijklmnopqrstuvwxyz0123456789")
        for sign in NAME_SIGNS:
            self.assertEqual(read_again(f"section {sign}"), f"section {sign}")

    def test_other_names_are_refused(self):
        for name in BAD_NAMES:
            self.assertEqual(refused_row(f"section {name}"), 0, name)
            self.assertEqual(refused_row(f"section ok\nsection {name}"), 1, name)
            self.assertEqual(refused_row(f"section ok\npoint {name} in ok"), 1, name)
            self.assertEqual(refused_row(f"section ok\nsignal {name} at ok.0"), 1, name)

    def test_names_of_all_sorts_are_unlike(self):
        self.assertEqual(refused_row("section a\nsection b\nsection a"), 2)
        self.assertEqual(refused_row("section a\npoint a in a"), 1)
        self.assertEqual(refused_row("section a\nsection b\npoint b in a"), 2)
        self.assertEqual(refused_row("section a\nsection b\npoint p in a\npoint p in b"), 3)
        self.assertEqual(refused_row("section a\nsignal a at a.0"), 1)
        self.assertEqual(refused_row("section a\npoint p in a\nsignal p at a.0"), 2)
        self.assertEqual(refused_row("section a\nsignal s at a.0\nsignal s at a.1"), 2)

    def test_names_that_differ_somewhere_are_unlike(self):
        text = "section a\nsection aa\nsection a1\npoint a2 in a\npoint 1a in aa\nsignal a3 at a.0\nsignal 01a at a.1"
        self.assertEqual(read_again(text), text)


class Limits(unittest.TestCase):
    def check(self, most, ahead, rows):
        """So many rows of a sort are read behind those ahead; one more is refused, and so are all behind it."""
        self.assertGreater(len(rows), most + 1)
        text = joined(*ahead, *rows[:most])
        self.assertEqual(read_again(text), text)
        self.assertEqual(refused_row(joined(*ahead, *rows[:most + 1])), len(ahead) + most)
        self.assertEqual(refused_row(joined(*ahead, *rows)), len(ahead) + most)

    def test_one_to_30_sections(self):
        rows = [f"section {name}" for name in names("s", 33)]
        self.assertEqual(read_again(rows[0]), rows[0])
        self.check(30, [], rows)

    def test_no_station_is_without_a_section(self):
        for text in ("", "\n", "point p in a", "link a.0 b.0", "signal s at a.0"):
            self.assertEqual(refused_row(text), 0)

    def test_at_most_12_points(self):
        self.check(12, ["section a"], [f"point {name} in a" for name in names("p", 15)])
        owners = ["a", "b"] * 8
        rows = [f"point {name} in {owner}" for name, owner in zip(names("p", 15), owners)]
        self.check(12, ["section a", "section b"], rows)

    def test_at_most_60_links(self):
        points = names("p", 6)
        ahead = ["section a", "section b"] + [f"point {point} in a" for point in points]
        rows = []
        for code in range(64):
            lies = ["r" if code >> at & 1 else "n" for at in range(6)]
            rows.append("link a.1 b.0 when " + " and ".join(f"{point} {lie}" for point, lie in zip(points, lies)))
        self.check(60, ahead, rows)

    def test_at_most_16_signals(self):
        sections = names("s", 10)
        rows = [f"signal {name} at {sections[at // 2]}.{at & 1}" for at, name in enumerate(names("x", 20))]
        self.check(16, [f"section {name}" for name in sections], rows)

    def test_all_limits_are_reached_at_once(self):
        sections, points, signals = names("s", 30), names("p", 12), names("x", 16)
        rows = [f"section {name}" for name in sections]
        rows += [f"point {point} in {section}" for point, section in zip(points, sections)]
        for at in range(0, 12, 2):
            for side, lie, other_lie in product("01", "nr", "nr"):
                rows.append(f"link {sections[at]}.{side} {sections[at + 1]}.{side}"
                            f" when {points[at]} {lie} and {points[at + 1]} {other_lie}")
        rows += [f"link {sections[at]}.1 {sections[at + 1]}.0" for at in range(12, 24)]
        self.assertEqual(len(rows), 30 + 12 + 60)
        rows += [f"signal {name} at {section}.1" for name, section in zip(signals, sections)]
        text = joined(*rows)
        self.assertEqual(read_again(text), text)
        self.assertEqual(refused_row(text + "\nsignal more at s10.0"), 30 + 12 + 60 + 16)


if __name__ == "__main__":
    unittest.main()
