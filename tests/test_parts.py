"""Point 2: sections, points, links and signals, and which links of one end may stand side by side."""

import unittest
from itertools import product

from signalhouse.reading import layout_text, read_layout
from tests.stations import GOOD, WORDS, joined, refused_row

THREE = joined("section a", "section b", "section c")
POINTS = joined(THREE, "point p in a", "point q in a", "point s in b", "point t in c")
# The rows ahead of the first link: three sections, four points.
FIRST = 7


class Told(unittest.TestCase):
    def test_the_parts_are_told_as_the_document_tells_them(self):
        layout = read_layout(WORDS)
        self.assertEqual(layout.sections, ("link", "and", "0"))
        self.assertEqual(layout.points, (("when", "link"), ("n", "and"), ("1", "link")))
        self.assertEqual(layout.links, (
            (("link", 1), ("and", 0), (("1", "n"), ("n", "r"), ("when", "n"))),
            (("and", 0), ("link", 1), (("1", "n"), ("n", "r"), ("when", "r"))),
            (("link", 0), ("0", 0), ()),
        ))
        self.assertEqual(layout.signals, (("point", ("0", 1)), ("at", ("link", 0)), ("in", ("link", 1))))


class Linked(unittest.TestCase):
    def check(self, row, *links):
        """Behind POINTS these links are read, or refused at the link with this place."""
        text = joined(POINTS, *links)
        if row is None:
            self.assertEqual(layout_text(read_layout(text)), text)
        else:
            self.assertEqual(refused_row(text), FIRST + row)

    def test_a_link_joins_ends_of_unlike_sections(self):
        for one, other in product("01", "01"):
            self.check(None, f"link a.{one} b.{other}")
            self.check(0, f"link a.{one} a.{other}")

    def test_an_end_is_0_or_1_of_a_section(self):
        for word in ("a.2", "a.00", "a.01", "a.", "a", "a0", ".1", "a-1", "a.1.1", "a.-1", "a.n", "A.1", "d.1", "p.1",
                     "\u0661.1", "a.\u0661", ""):
            self.check(0, f"link {word} b.0")
            self.check(0, f"link b.0 {word}")

    def test_a_link_hangs_on_points_of_its_two_sections(self):
        self.check(None, "link a.1 b.0 when p n")
        self.check(None, "link a.1 b.0 when s r")
        self.check(None, "link b.0 a.1 when p r")
        self.check(None, "link a.1 b.0 when p n and q r and s n")
        self.check(0, "link a.1 b.0 when t n")
        self.check(0, "link a.1 b.0 when p n and q n and t n")
        self.check(0, "link b.1 c.0 when p n")

    def test_a_point_lies_n_or_r(self):
        for lie in ("N", "R", "x", "nr", "0", ""):
            self.check(0, f"link a.1 b.0 when p {lie}")
            self.check(0, f"link a.1 b.0 when p n and q {lie}")

    def test_links_of_one_end_are_told_apart_by_a_point(self):
        self.check(None, "link a.1 b.0 when p n", "link a.1 c.0 when p r")
        self.check(None, "link b.0 a.1 when p r", "link a.1 c.0 when p n")
        self.check(None, "link b.0 a.1 when p n", "link c.0 a.1 when p r")
        self.check(None, "link a.1 b.0 when p n and q n", "link a.1 c.0 when p n and q r")
        self.check(None, "link a.1 b.0 when q r", "link a.1 c.0 when p n and q n and t n")

    def test_links_of_one_end_that_could_be_open_at_once_are_refused(self):
        self.check(1, "link a.1 b.0", "link a.1 c.0")
        self.check(1, "link a.1 b.0", "link c.0 a.1")
        self.check(1, "link b.0 a.1", "link a.1 c.0")
        self.check(1, "link b.0 a.1", "link c.0 a.1")
        self.check(1, "link a.1 b.0 when p n", "link a.1 c.0")
        self.check(1, "link a.1 b.0", "link a.1 c.0 when p n")
        self.check(1, "link a.1 b.0 when p n", "link a.1 c.0 when p n")
        self.check(1, "link a.1 b.0 when p n", "link a.1 c.0 when q r")
        self.check(1, "link a.1 b.0 when p n and q n", "link a.1 c.0 when p n and q n and t r")

    def test_each_two_links_of_an_end_are_told_apart(self):
        first = ("link a.1 b.0 when p n and q n", "link a.1 c.0 when p n and q r")
        self.check(None, *first, "link a.1 b.1 when p r")
        self.check(None, *first, "link a.1 b.1 when p r and q n", "link a.1 c.1 when p r and q r")
        self.check(2, *first, "link a.1 b.1 when q n")
        self.check(2, *first, "link a.1 b.1 when q r")
        self.check(2, *first, "link a.1 b.1")
        self.check(3, *first, "link a.1 b.1 when p r", "link a.1 c.1 when q r")

    def test_links_of_the_same_two_ends_are_told_apart_too(self):
        self.check(1, "link a.1 b.0", "link a.1 b.0")
        self.check(1, "link a.1 b.0", "link b.0 a.1")
        self.check(None, "link a.1 b.0 when p n", "link b.0 a.1 when p r")
        self.check(None, "link a.1 b.0 when s n", "link a.1 b.0 when s r")

    def test_a_link_may_clash_at_either_of_its_ends(self):
        self.check(1, "link a.1 b.0", "link c.1 b.0")
        self.check(2, "link a.1 b.0", "link c.1 b.1", "link b.1 a.0")
        self.check(None, "link a.1 b.0 when s n", "link c.1 b.0 when s r")
        self.check(2, "link a.1 b.0 when p n", "link a.1 c.0 when p r", "link b.0 c.1 when s n")

    def test_links_without_a_common_end_need_not_be_told_apart(self):
        self.check(None, "link a.1 b.0", "link b.1 c.0", "link c.1 a.0")
        self.check(None, "link a.1 b.0", "link b.1 a.0")
        self.check(None, "link a.1 b.0 when p n", "link a.0 b.1 when p n")

    def test_never_more_than_one_link_of_an_end_is_open(self):
        tree = joined(POINTS, "link a.1 b.0 when p n", "link a.1 b.1 when p r and s n", "link c.0 b.1 when s r")
        for text in (*GOOD, tree):
            layout = read_layout(text)
            points = [point for point, _ in layout.points]
            for chosen in product("nr", repeat=len(points)):
                lies = dict(zip(points, chosen))
                open_ends = [end for one, other, wants in layout.links for end in (one, other)
                             if all(lies[point] == lie for point, lie in wants)]
                self.assertEqual(len(open_ends), len(set(open_ends)))


class Signalled(unittest.TestCase):
    def check(self, row, *signals):
        text = joined(THREE, "link a.1 b.0", *signals)
        if row is None:
            self.assertEqual(layout_text(read_layout(text)), text)
        else:
            self.assertEqual(refused_row(text), 4 + row)

    def test_a_signal_stands_at_any_end(self):
        self.check(None, "signal s at a.1", "signal t at a.0", "signal u at c.1", "signal v at b.0", "signal w at b.1")

    def test_at_each_end_stands_one_signal_at_most(self):
        self.check(1, "signal s at a.1", "signal t at a.1")
        self.check(2, "signal s at a.1", "signal t at a.0", "signal u at a.1")
        self.check(1, "signal s at c.0", "signal t at c.0")

    def test_a_signal_stands_nowhere_else(self):
        for word in ("a", "a.2", "a.", "a.01", "a1", ".1", "d.0", "s.0", "t.0", "A.0", ""):
            self.check(0, f"signal s at {word}")


if __name__ == "__main__":
    unittest.main()
