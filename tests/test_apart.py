"""Point 1: what is handed in stays as it is, and what is told belongs to whoever got it."""

import ast
import copy
import unittest
from pathlib import Path

import signalhouse
from signalhouse.book import book_text, done_again
from signalhouse.desks import Desk
from signalhouse.layouts import Layout
from signalhouse.reading import layout_text, read_layout
from signalhouse.ways import routes_of
from tests.desk_case import do
from tests.stations import DESKS, FORK, GOOD, LOOP, parts

# Each kind of deed on LOOP.
DEEDS = ("come t west.0", "lay 0", "back 0", "tick 30", "throw e r", "lay 0", "head t", "tail t", "throw e n", "lay 2",
         "head t", "tail t", "leave t")


class Apart(unittest.TestCase):
    def test_writing_a_station_leaves_it_as_it_is(self):
        for text in GOOD:
            layout = read_layout(text)
            before = copy.deepcopy(vars(layout))
            layout_text(layout)
            self.assertEqual(vars(layout), before)

    def test_a_station_that_is_changed_changes_no_other(self):
        one, other = read_layout(FORK), read_layout(FORK)
        before = parts(other)
        self.assertTrue(one.add_section("new"))
        self.assertTrue(one.add_point("more", "new"))
        self.assertTrue(one.add_link(("new", 0), ("left", 1), [("more", "r")]))
        self.assertTrue(one.add_signal("late", ("new", 1)))
        self.assertNotEqual(layout_text(one), FORK)
        self.assertEqual(parts(other), before)
        self.assertEqual(layout_text(other), FORK)
        self.assertEqual(layout_text(read_layout(FORK)), FORK)

    def test_a_station_with_emptied_parts_empties_no_other(self):
        one, other = read_layout(FORK), read_layout(FORK)
        one.sections = one.points = one.links = one.signals = ()
        self.assertEqual(layout_text(other), FORK)
        self.assertEqual(layout_text(read_layout(FORK)), FORK)

    def test_parts_that_were_told_stay_when_the_station_grows(self):
        layout = read_layout(FORK)
        told = parts(layout)
        before = copy.deepcopy(told)
        self.assertTrue(layout.add_section("new"))
        self.assertTrue(layout.add_link(("new", 0), ("left", 1), []))
        self.assertEqual(told, before)

    def test_the_parts_of_a_station_are_nothing_that_can_be_changed(self):
        for text in GOOD:
            self.assertTrue(all(hash(part) is not None for part in parts(read_layout(text))))

    def test_wants_that_are_handed_in_are_neither_changed_nor_kept(self):
        layout = read_layout("section a\nsection b\npoint p in a")
        wants = [("p", "n")]
        self.assertTrue(layout.add_link(("a", 1), ("b", 0), wants))
        self.assertEqual(wants, [("p", "n")])
        wants.append(("p", "x"))
        self.assertEqual(layout.links, ((("a", 1), ("b", 0), (("p", "n"),)),))

    def test_what_may_not_be_added_changes_nothing(self):
        layout = read_layout(FORK)
        before = parts(layout)
        self.assertFalse(layout.add_section("main"))
        self.assertFalse(layout.add_point("p1", "left"))
        self.assertFalse(layout.add_link(("main", 1), ("left", 1), []))
        self.assertFalse(layout.add_signal("more", ("main", 1)))
        self.assertEqual(parts(layout), before)

    def test_a_desk_leaves_its_station_as_it_is(self):
        layout = read_layout(LOOP)
        before = copy.deepcopy(vars(layout))
        desk = Desk(layout)
        for deed in DEEDS:
            do(desk, deed)
        done_again(layout, book_text(desk))
        self.assertEqual(vars(layout), before)

    def test_routes_leave_their_station_as_it_is(self):
        for text in DESKS:
            layout = read_layout(text)
            before = copy.deepcopy(vars(layout))
            routes_of(layout)
            self.assertEqual(vars(layout), before)

    def test_a_station_that_grows_changes_no_desk(self):
        layout = read_layout("section a\nsection b\nlink a.1 b.0\nsignal s at a.1")
        desk = Desk(layout)
        self.assertTrue(layout.add_section("c"))
        self.assertTrue(layout.add_link(("b", 1), ("c", 0), []))
        self.assertTrue(layout.add_signal("t", ("c", 0)))
        do(desk, "lay 0")
        self.assertEqual(desk.standing(), ({}, {"b": 0}, {}, {0: None}))
        do(desk, "come t a.0")
        do(desk, "head t")
        do(desk, "tail t")
        do(desk, "leave t")
        self.assertEqual(desk.standing(), ({}, {}, {}, {}))

    def test_what_is_read_is_a_layout(self):
        self.assertIs(type(read_layout(FORK)), Layout)
        self.assertEqual(Layout.__module__, "signalhouse.layouts")
        self.assertEqual(read_layout.__module__, "signalhouse.reading")
        self.assertEqual(layout_text.__module__, "signalhouse.reading")


class Sources(unittest.TestCase):
    """No clock, chance or files: the package imports nothing but itself and calls nothing that reaches outside."""

    def trees(self):
        files = sorted(Path(signalhouse.__file__).parent.glob("*"))
        self.assertTrue(all(file.suffix == ".py" for file in files if file.name != "__pycache__"))
        return [ast.parse(file.read_text(encoding="utf-8")) for file in files if file.suffix == ".py"]

    def test_nothing_is_imported_but_the_package(self):
        trees = self.trees()
        self.assertGreater(len(trees), 7)
        for node in (node for tree in trees for node in ast.walk(tree)):
            self.assertNotIsInstance(node, ast.Import)
            if isinstance(node, ast.ImportFrom):
                self.assertEqual(node.module.split(".")[0], "signalhouse")

    def test_no_call_reaches_outside(self):
        outside = {"open", "input", "print", "exec", "eval", "compile", "globals", "hash", "id", "__import__"}
        for tree in self.trees():
            names = {node.id for node in ast.walk(tree) if isinstance(node, ast.Name)}
            self.assertEqual(names & outside, set())


if __name__ == "__main__":
    unittest.main()
