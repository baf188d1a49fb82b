"""Points 11 to 13: how a train's head and tail go, and how a train comes and leaves."""

import unittest

from tests.desk_case import DeskCase, desk_of, do
from tests.stations import LINE, LONG, LOOP, THREE_WAYS, TURNOFF

# t has come into a and route 0 of LINE is laid for it.
AHEAD = ("come t a.0", "lay 0")


class Head(DeskCase):
    station = LINE

    def test_past_a_signal_and_on_where_none_stands(self):
        desk = self.made(*AHEAD)
        do(desk, "head t")
        self.check_standing(desk, locks={"b": 0, "c": 0}, places={"t": [("a", 0), ("b", 0)]}, waits={0: None})
        do(desk, "head t")
        self.check_standing(desk, locks={"b": 0, "c": 0}, places={"t": [("a", 0), ("b", 0), ("c", 0)]},
                            waits={0: None})

    def test_places_are_ends_by_which_it_came_in(self):
        desk = self.made("come t d.1", "lay 2", "head t", "head t", "head t")
        self.check_standing(desk, locks={"c": 2, "b": 2, "a": 2}, waits={2: None},
                            places={"t": [("d", 1), ("c", 1), ("b", 1), ("a", 1)]})

    def test_stops_at_a_signal_that_does_not_show(self):
        desk = self.made("come t a.0")
        self.check_barred(desk, "head t", ("stop", "a", "s"))
        desk = self.made(*AHEAD, "head t", "head t")
        self.check_barred(desk, "head t", ("stop", "c", "t"))
        # The signal t and the train t are called alike; with another train the signal is told all the same.
        desk = self.made("come x a.0", "lay 0", "head x", "head x")
        self.check_barred(desk, "head x", ("stop", "c", "t"))

    def test_stops_while_the_route_waits(self):
        desk = self.made(*AHEAD, "back 0")
        self.check_barred(desk, "head t", ("stop", "a", "s"))
        desk.tick(29)
        self.check_barred(desk, "head t", ("stop", "a", "s"))
        desk.tick(1)
        self.check_barred(desk, "head t", ("stop", "a", "s"))

    def test_stops_where_no_signal_stands(self):
        self.station = "section a\nsection b\nsection c\nlink a.1 b.0\nlink b.1 c.0\nsignal s at c.0\nsignal r at b.1"
        desk = self.made("come t a.0")
        self.check_barred(desk, "head t", ("stop", "a", "t"))
        desk = self.made("come t a.0", "lay 1")
        self.check_barred(desk, "head t", ("stop", "a", "t"))

    def test_stops_where_a_route_locks_the_next_section_for_nobody_or_another_train(self):
        self.station = "section a\nsection b\nsection c\nlink a.1 b.0\nlink b.1 c.0\nsignal s at c.0\nsignal t at b.0"
        desk = self.made("come u a.0", "lay 0")
        self.check_barred(desk, "head u", ("stop", "a", "u"))
        desk = self.made("come u a.0", "come x c.1", "lay 0", "head x")
        self.check_standing(desk, locks={"b": 0}, places={"u": [("a", 0)], "x": [("c", 1), ("b", 1)]}, waits={0: None})
        self.check_barred(desk, "head u", ("stop", "a", "u"))
        self.check_barred(desk, "head x", ("stop", "b", "t"))
        do(desk, "tail x")
        self.check_barred(desk, "head u", ("stop", "a", "u"))

    def test_no_open_link(self):
        self.station = LOOP
        desk = self.made("come t east.1", "lay 4", "head t", "tail t", "throw w r")
        self.check_no_such(desk, desk.head, "t")
        do(desk, "throw w n")
        self.check_barred(desk, "head t", ("stop", "one", "o0"))
        do(desk, "lay 6")
        do(desk, "head t")
        self.check_no_such(desk, desk.head, "t")
        do(desk, "tail t")
        self.check_no_such(desk, desk.head, "t")

    def test_no_links_at_all(self):
        desk = self.made("come t d.1", "lay 2", "head t", "head t", "head t")
        self.check_no_such(desk, desk.head, "t")
        self.station = "section a\nsignal s at a.1"
        desk = self.made("come t a.0")
        self.check_no_such(desk, desk.head, "t")

    def test_a_train_that_faces_the_other_way_does_not_take_the_route(self):
        # x stands in c, of whose end 1 a signal shows, but its head would go by c.0.
        desk = self.made("come x d.1", "lay 2", "head x", "tail x")
        self.check_standing(desk, locks={"c": 2, "b": 2, "a": 2}, places={"x": [("c", 1)]}, waits={2: None})
        do(desk, "lay 1")
        self.assertTrue(desk.shows("t"))
        do(desk, "head x")
        self.assertTrue(desk.shows("t"))
        self.check_standing(desk, locks={"c": 2, "b": 2, "a": 2, "d": 1}, places={"x": [("c", 1), ("b", 1)]},
                            waits={1: None, 2: None})
        self.station = "section a\nsection b\nsection c\nlink a.1 b.0\nlink b.1 c.0\nsignal s at b.1"
        desk = self.made("come x c.1")
        self.check_barred(desk, "head x", ("stop", "c", "x"))

    def test_a_route_that_leads_another_way_than_the_open_link(self):
        # Route 0 is laid still, run through by t; u comes behind it with p lying for route 1.
        self.station = TURNOFF
        desk = self.made("come t a.0", "lay 0", "head t", "head t", "tail t", "throw p r", "come u a.0")
        self.check_barred(desk, "head u", ("stop", "a", "s"))
        do(desk, "lay 1")
        do(desk, "head u")
        self.assertEqual(desk.standing()[2], {"t": [("b", 0), ("c", 0)], "u": [("a", 0), ("e", 0)]})
        # With p back again, the open link leads into a section that route 0 locks for t alone.
        desk = self.made("come t a.0", "lay 0", "head t", "head t", "tail t", "come u a.0")
        self.check_barred(desk, "head u", ("stop", "a", "s"))
        do(desk, "tail t")
        self.check_barred(desk, "head u", ("stop", "a", "s"))

    def test_two_routes_of_one_signal(self):
        self.station = LOOP
        for number, section in ((0, "one"), (1, "two")):
            desk = self.made(f"lay {number}", "come t west.0")
            do(desk, "head t")
            self.assertEqual(desk.standing()[2], {"t": [("west", 0), (section, 0)]})

    def test_the_head_far_ahead_of_the_tail(self):
        self.station = LONG
        desk = self.made("come t a.0", "lay 0", "lay 2", "lay 3", *["head t"] * 7)
        places = [(section, 0) for section in "abcdefgh"]
        self.check_standing(desk, places={"t": places}, waits={0: None, 2: None, 3: None},
                            locks=dict(b=0, c=0, d=2, e=2, f=2, g=3, h=3))
        self.check_no_such(desk, desk.head, "t")

    def test_no_such_train(self):
        desk = self.made(*AHEAD)
        for name in ("u", "a", "s", "", "T", "0"):
            for call in (desk.head, desk.tail, desk.leave):
                self.check_no_such(desk, call, name)


class Tail(DeskCase):
    station = LINE

    def test_sections_are_let_go_one_by_one_and_the_last_with_the_one_before(self):
        desk = self.made(*AHEAD, "head t", "head t")
        do(desk, "tail t")
        self.check_standing(desk, locks={"b": 0, "c": 0}, places={"t": [("b", 0), ("c", 0)]}, waits={0: None})
        do(desk, "tail t")
        self.check_standing(desk, places={"t": [("c", 0)]})

    def test_a_train_alone_in_a_section_keeps_it_while_more_is_locked(self):
        desk = self.made(*AHEAD, "head t", "tail t")
        self.check_standing(desk, locks={"b": 0, "c": 0}, places={"t": [("b", 0)]}, waits={0: None})
        do(desk, "head t")
        do(desk, "tail t")
        self.check_standing(desk, places={"t": [("c", 0)]})

    def test_a_route_with_one_section(self):
        desk = self.made(*AHEAD, "head t", "head t", "tail t", "tail t", "lay 1", "head t")
        self.check_standing(desk, locks={"d": 1}, places={"t": [("c", 0), ("d", 0)]}, waits={1: None})
        do(desk, "tail t")
        self.check_standing(desk, places={"t": [("d", 0)]})

    def test_a_route_that_is_left_while_the_next_one_is_entered(self):
        desk = self.made(*AHEAD, "head t", "head t", "lay 1", "head t")
        self.check_standing(desk, locks={"b": 0, "c": 0, "d": 1}, waits={0: None, 1: None},
                            places={"t": [("a", 0), ("b", 0), ("c", 0), ("d", 0)]})
        do(desk, "tail t")
        do(desk, "tail t")
        self.check_standing(desk, locks={"c": 0, "d": 1}, places={"t": [("c", 0), ("d", 0)]},
                            waits={0: None, 1: None})
        do(desk, "tail t")
        self.check_standing(desk, places={"t": [("d", 0)]})

    def test_section_by_section_through_three_routes(self):
        self.station = LONG
        desk = self.made("come t a.0", "lay 0", "lay 2", "lay 3", *["head t"] * 7)
        locked = ("bcdefgh", "cdefgh", "defgh", "efgh", "fgh", "gh", "")
        laid = ((0, 2, 3), (0, 2, 3), (2, 3), (2, 3), (2, 3), (3,), ())
        for at, (sections, numbers) in enumerate(zip(locked, laid)):
            do(desk, "tail t")
            locks = {section: 0 if section in "bc" else 2 if section in "def" else 3 for section in sections}
            places = [(section, 0) for section in "abcdefgh"[at + 1:]]
            self.check_standing(desk, locks=locks, places={"t": places}, waits={number: None for number in numbers})
        self.check_no_such(desk, desk.tail, "t")

    def test_a_train_alone_in_the_midst_of_routes(self):
        self.station = LONG
        desk = self.made("come t a.0", "lay 0", "lay 2")
        for _ in range(4):
            do(desk, "head t")
            do(desk, "tail t")
        self.check_standing(desk, locks={"e": 2, "f": 2}, places={"t": [("e", 0)]}, waits={2: None})
        do(desk, "head t")
        self.check_standing(desk, locks={"e": 2, "f": 2}, places={"t": [("e", 0), ("f", 0)]}, waits={2: None})
        do(desk, "tail t")
        self.check_standing(desk, places={"t": [("f", 0)]})

    def test_a_section_that_no_route_locks(self):
        self.station = "section a\nsection b\nlink a.1 b.0\nsignal s at a.1"
        desk = self.made("come t a.0", "lay 0", "head t")
        self.check_standing(desk, locks={"b": 0}, places={"t": [("a", 0), ("b", 0)]}, waits={0: None})
        do(desk, "tail t")
        self.check_standing(desk, places={"t": [("b", 0)]})

    def test_what_is_let_go_may_be_laid_again(self):
        desk = self.made(*AHEAD, "head t", "head t", "tail t", "tail t", "lay 1", "head t", "tail t", "lay 0")
        self.check_standing(desk, locks={"b": 0, "c": 0}, places={"t": [("d", 0)]}, waits={0: None})
        desk = self.made(*AHEAD, "head t", "head t", "tail t")
        self.check_barred(desk, "lay 0", ("train", "b", "t"), ("route", "b", 0), ("train", "c", "t"), ("route", "c", 0))

    def test_a_route_that_is_laid_again_behind_a_train_is_another_ones(self):
        self.station = LONG
        desk = self.made("come t a.0", "lay 0", "head t", "head t", "tail t", "tail t", "come u a.0", "lay 2", "head t",
                         "tail t", "lay 0", "head u", "head u")
        self.check_standing(desk, locks=dict(b=0, c=0, d=2, e=2, f=2), waits={0: None, 2: None},
                            places={"t": [("d", 0)], "u": [("a", 0), ("b", 0), ("c", 0)]})
        self.check_barred(desk, "head u", ("stop", "c", "t"))
        do(desk, "head t")
        do(desk, "tail t")
        self.check_barred(desk, "head u", ("stop", "c", "t"))
        self.check_standing(desk, locks=dict(b=0, c=0, e=2, f=2), waits={0: None, 2: None},
                            places={"t": [("e", 0)], "u": [("a", 0), ("b", 0), ("c", 0)]})

    def test_a_train_that_stands_in_one_section_alone(self):
        for deeds in (("come t a.0",), AHEAD, (*AHEAD, "head t", "tail t"), ("come t d.1",)):
            desk = self.made(*deeds)
            self.check_no_such(desk, desk.tail, "t")


class Come(DeskCase):
    station = LINE

    def test_by_an_end_without_links(self):
        self.check_standing(self.made("come t a.0"), places={"t": [("a", 0)]})
        self.check_standing(self.made("come t d.1", "come u a.0"), places={"t": [("d", 1)], "u": [("a", 0)]})
        self.station = "section a"
        self.check_standing(self.made("come t a.0"), places={"t": [("a", 0)]})
        self.check_standing(self.made("come t a.1"), places={"t": [("a", 1)]})

    def test_past_a_signal_that_stands_there(self):
        self.station = "section a\nsignal s at a.0"
        self.check_standing(self.made("come t a.0"), places={"t": [("a", 0)]})

    def test_by_an_end_with_links(self):
        for section, side in (("a", 1), ("b", 0), ("b", 1), ("c", 0), ("c", 1), ("d", 0)):
            desk = self.made()
            self.check_no_such(desk, desk.come, "t", section, side)

    def test_by_an_end_whose_links_are_all_shut(self):
        self.station = "section a\nsection b\npoint p in a\nlink a.1 b.0 when p r"
        for deeds in ((), ("throw p r",)):
            desk = self.made(*deeds)
            self.check_no_such(desk, desk.come, "t", "a", 1)
            self.check_no_such(desk, desk.come, "t", "b", 0)

    def test_no_such_section(self):
        for section in ("x", "s", "", "A", "a.0"):
            for side in (0, 1):
                desk = self.made()
                self.check_no_such(desk, desk.come, "t", section, side)

    def test_no_such_end(self):
        for side in (2, -1):
            desk = self.made()
            self.check_no_such(desk, desk.come, "t", "a", side)

    def test_a_train_that_is_there_already(self):
        desk = self.made("come t a.0")
        self.check_no_such(desk, desk.come, "t", "d", 1)
        # That is told ahead of what bars.
        self.check_no_such(desk, desk.come, "t", "a", 0)

    def test_no_such_section_ahead_of_what_bars(self):
        desk = self.made("come t a.0", "lay 0")
        self.check_no_such(desk, desk.come, "u", "a", 1)
        self.check_no_such(desk, desk.come, "u", "b", 0)

    def test_barred_by_a_train_a_route_or_both(self):
        self.check_barred(self.made("come t a.0"), "come u a.0", ("train", "a", "t"))
        self.check_barred(self.made("lay 1"), "come u d.1", ("route", "d", 1))
        desk = self.made(*AHEAD, "head t", "head t", "tail t", "tail t", "lay 1", "head t")
        self.check_barred(desk, "come u d.1", ("train", "d", "t"), ("route", "d", 1))
        do(desk, "tail t")
        self.check_barred(desk, "come u d.1", ("train", "d", "t"))

    def test_names_of_trains_may_be_those_of_other_things(self):
        desk = self.made("come a a.0", "come s d.1")
        self.check_standing(desk, places={"a": [("a", 0)], "s": [("d", 1)]})


class Leave(DeskCase):
    station = LINE

    def test_by_the_end_by_which_it_did_not_come_in(self):
        desk = self.made("come t d.1", "lay 2", *["head t"] * 3, *["tail t"] * 3)
        self.check_standing(desk, places={"t": [("a", 1)]})
        do(desk, "leave t")
        self.check_standing(desk)

    def test_of_a_section_without_links(self):
        self.station = "section a\nsignal s at a.1"
        for side in (0, 1):
            desk = self.made(f"come t a.{side}", "leave t")
            self.check_standing(desk)

    def test_then_it_is_not_there_and_may_come_again(self):
        self.station = "section a"
        desk = self.made("come t a.0", "leave t")
        for call in (desk.head, desk.tail, desk.leave):
            self.check_no_such(desk, call, "t")
        do(desk, "come t a.1")
        self.check_standing(desk, places={"t": [("a", 1)]})

    def test_not_by_an_end_with_links(self):
        desk = self.made("come t a.0")
        self.check_no_such(desk, desk.leave, "t")
        desk = self.made(*AHEAD, "head t", "tail t")
        self.check_no_such(desk, desk.leave, "t")
        self.station = LOOP
        desk = self.made("come t east.1", "lay 4", "head t", "tail t", "throw w r")
        self.check_no_such(desk, desk.leave, "t")

    def test_not_while_it_stands_in_several_sections(self):
        desk = self.made("come t d.1", "lay 2", *["head t"] * 3)
        for _ in range(3):
            self.check_no_such(desk, desk.leave, "t")
            do(desk, "tail t")
        do(desk, "leave t")

    def test_others_stay(self):
        self.station = "section a\nsection b"
        desk = self.made("come t a.0", "come u b.1", "leave t")
        self.check_standing(desk, places={"u": [("b", 1)]})

    def test_behind_a_way_of_several(self):
        self.station = THREE_WAYS
        desk = self.made("throw p r", "come t a.0", "lay 2", "head t", "head t", "tail t", "tail t")
        self.check_standing(desk, lies={"p": "r"}, places={"t": [("z", 0)]})
        do(desk, "leave t")
        self.check_standing(desk, lies={"p": "r"})


class Apart(DeskCase):
    station = LINE

    def test_trains_of_two_desks(self):
        one, other = self.made("come t a.0"), desk_of(LINE)
        self.check_no_such(other, other.head, "t")
        do(other, "come t d.1")
        self.check_standing(one, places={"t": [("a", 0)]})

    def test_lists_of_places_may_be_changed(self):
        desk = self.made(*AHEAD, "head t")
        desk.standing()[2]["t"].clear()
        desk.standing()[2].clear()
        do(desk, "tail t")
        self.check_standing(desk, locks={"b": 0, "c": 0}, places={"t": [("b", 0)]}, waits={0: None})


if __name__ == "__main__":
    unittest.main()
