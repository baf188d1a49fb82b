"""Point 1: what is handed in stays as it is, and what is told belongs to whoever got it."""

import copy
import unittest

from signalhouse.layouts import Layout
from signalhouse.reading import layout_text, read_layout
from tests.stations import FORK, GOOD, parts


class Apart(unittest.TestCase):
    def test_writing_a_station_leaves_it_as_it_is(self):
        for text in GOOD:
            layout = read_layout(text)
            before = copy.deepcopy(vars(layout))
            layout_text(layout)
            self.assertEqual(vars(layout), before)

    def test_a_station_that_is_changed_changes_no_other(self):
        one, other = read_layout(FORK), read_layout(FORK)
        before = parts(other)
        self.assertTrue(one.add_section("new"))
        self.assertTrue(one.add_point("more", "new"))
        self.assertTrue(one.add_link(("new", 0), ("left", 1), [("more", "r")]))
        self.assertTrue(one.add_signal("late", ("new", 1)))
        self.assertNotEqual(layout_text(one), FORK)
        self.assertEqual(parts(other), before)
        self.assertEqual(layout_text(other), FORK)
        self.assertEqual(layout_text(read_layout(FORK)), FORK)

    def test_a_station_with_emptied_parts_empties_no_other(self):
        one, other = read_layout(FORK), read_layout(FORK)
        one.sections = one.points = one.links = one.signals = ()
        self.assertEqual(layout_text(other), FORK)
        self.assertEqual(layout_text(read_layout(FORK)), FORK)

    def test_parts_that_were_told_stay_when_the_station_grows(self):
        layout = read_layout(FORK)
        told = parts(layout)
        before = copy.deepcopy(told)
        self.assertTrue(layout.add_section("new"))
        self.assertTrue(layout.add_link(("new", 0), ("left", 1), []))
        self.assertEqual(told, before)

    def test_the_parts_of_a_station_are_nothing_that_can_be_changed(self):
        for text in GOOD:
            self.assertTrue(all(hash(part) is not None for part in parts(read_layout(text))))

    def test_wants_that_are_handed_in_are_neither_changed_nor_kept(self):
        layout = read_layout("section a\nsection b\npoint p in a")
        wants = [("p", "n")]
        self.assertTrue(layout.add_link(("a", 1), ("b", 0), wants))
        self.assertEqual(wants, [("p", "n")])
        wants.append(("p", "x"))
        self.assertEqual(layout.links, ((("a", 1), ("b", 0), (("p", "n"),)),))

    def test_what_may_not_be_added_changes_nothing(self):
        layout = read_layout(FORK)
        before = parts(layout)
        self.assertFalse(layout.add_section("main"))
        self.assertFalse(layout.add_point("p1", "left"))
        self.assertFalse(layout.add_link(("main", 1), ("left", 1), []))
        self.assertFalse(layout.add_signal("more", ("main", 1)))
        self.assertEqual(parts(layout), before)

    def test_what_is_read_is_a_layout(self):
        self.assertIs(type(read_layout(FORK)), Layout)
        self.assertEqual(Layout.__module__, "signalhouse.layouts")
        self.assertEqual(read_layout.__module__, "signalhouse.reading")
        self.assertEqual(layout_text.__module__, "signalhouse.reading")


if __name__ == "__main__":
    unittest.main()
