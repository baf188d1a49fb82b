"""Point 14: a route is taken back, at once or behind a wait of 30 ticks."""

import unittest

from tests.desk_case import DeskCase, do, signals_of
from tests.stations import LINE, LONG, LOOP, TURNOFF

WAITING = ("come t west.0", "lay 0", "back 0")
AHEAD = {"t": [("west", 0)]}


class AtOnce(DeskCase):
    station = LOOP

    def test_no_train_is_there(self):
        desk = self.made("lay 1", "back 1")
        self.check_standing(desk, lies={"w": "r"})
        self.assertFalse(desk.shows("ws"))
        do(desk, "throw w n")
        do(desk, "lay 1")
        self.check_standing(desk, lies={"w": "r"}, locks={"two": 1}, waits={1: None})

    def test_all_sections_are_let_go(self):
        self.station = LONG
        self.check_standing(self.made("lay 2", "lay 3", "lay 1", "back 2"), lies={"k": "r"},
                            locks=dict(b=1, x=1, g=3, h=3), waits={1: None, 3: None})

    def test_other_routes_stay(self):
        desk = self.made("lay 0", "lay 6", "lay 2", "back 6")
        self.check_standing(desk, locks={"one": 0, "east": 2}, waits={0: None, 2: None})

    def test_a_train_stands_elsewhere(self):
        desk = self.made("come t east.1", "lay 0", "back 0")
        self.check_standing(desk, places={"t": [("east", 1)]})

    def test_a_train_faces_the_other_way(self):
        self.station = LINE
        # Of c, in which x stands, route 1 leads away by c.1, but x came in by it.
        desk = self.made("come x d.1", "lay 2", "head x", "tail x", "lay 1", "back 1")
        self.check_standing(desk, locks=dict(c=2, b=2, a=2), places={"x": [("c", 1)]}, waits={2: None})

    def test_only_a_tail_stands_in_the_signals_section(self):
        self.station = LINE
        desk = self.made("come x d.1", "lay 2", "head x", "tail x", "head x", "lay 1", "back 1")
        self.check_standing(desk, locks=dict(c=2, b=2, a=2), places={"x": [("c", 1), ("b", 1)]}, waits={2: None})


class Waits(DeskCase):
    station = LOOP

    def test_a_train_stands_ahead_of_the_signal(self):
        desk = self.made(*WAITING)
        self.check_standing(desk, locks={"one": 0}, places=AHEAD, waits={0: 30})
        self.assertFalse(desk.shows("ws"))

    def test_a_train_that_came_behind_the_laying(self):
        desk = self.made("lay 1", "come t west.0", "back 1")
        self.check_standing(desk, lies={"w": "r"}, locks={"two": 1}, places=AHEAD, waits={1: 30})

    def test_a_train_with_its_tail_far_behind(self):
        desk = self.made("come t west.0", "lay 0", "head t", "lay 2", "back 2")
        places = {"t": [("west", 0), ("one", 0)]}
        self.check_standing(desk, locks={"one": 0, "east": 2}, places=places, waits={0: None, 2: 30})
        do(desk, "tail t")
        self.check_standing(desk, locks={"east": 2}, places={"t": [("one", 0)]}, waits={2: 30})

    def test_the_29th_30th_and_31st_tick(self):
        desk = self.made(*WAITING)
        for gone in range(1, 30):
            do(desk, "tick 1")
            self.check_standing(desk, locks={"one": 0}, places=AHEAD, waits={0: 30 - gone})
        do(desk, "tick 1")
        self.check_standing(desk, places=AHEAD)
        do(desk, "tick 1")
        self.check_standing(desk, places=AHEAD)

    def test_many_ticks_at_once(self):
        for ticks, left in (((29,), 1), ((30,), 0), ((31,), 0), ((29, 1), 0), ((29, 2), 0), ((10, 10), 10),
                            ((10, 10, 9), 1), ((10, 10, 10), 0), ((999999,), 0), ((1, 28), 1), ((1, 29), 0)):
            desk = self.made(*WAITING, *[f"tick {many}" for many in ticks])
            if left:
                self.check_standing(desk, locks={"one": 0}, places=AHEAD, waits={0: left})
            else:
                self.check_standing(desk, places=AHEAD)

    def test_a_route_that_waits_already(self):
        desk = self.made(*WAITING, "tick 12", "back 0")
        self.check_standing(desk, locks={"one": 0}, places=AHEAD, waits={0: 18})
        do(desk, "tick 17")
        do(desk, "back 0")
        self.check_standing(desk, locks={"one": 0}, places=AHEAD, waits={0: 1})
        do(desk, "tick 1")
        self.check_standing(desk, places=AHEAD)

    def test_a_route_that_does_not_wait_is_left_alone(self):
        desk = self.made("come t west.0", "lay 0", "lay 2", "tick 30", "tick 1")
        self.check_standing(desk, locks={"one": 0, "east": 2}, places=AHEAD, waits={0: None, 2: None})
        self.assertTrue(desk.shows("ws"))
        do(desk, "back 0")
        do(desk, "tick 30")
        self.check_standing(desk, locks={"east": 2}, places=AHEAD, waits={2: None})

    def test_several_wait_each_for_itself(self):
        desk = self.made("throw e r", "come t west.0", "come u east.1", "lay 0", "lay 5", "back 5", "tick 4", "back 0",
                         "tick 5")
        places = {"t": [("west", 0)], "u": [("east", 1)]}
        self.check_standing(desk, lies={"e": "r"}, locks={"one": 0, "two": 5}, places=places, waits={0: 25, 5: 21})
        do(desk, "tick 21")
        self.check_standing(desk, lies={"e": "r"}, locks={"one": 0}, places=places, waits={0: 4})
        do(desk, "tick 4")
        self.check_standing(desk, lies={"e": "r"}, places=places)
        desk = self.made("throw e r", "come t west.0", "come u east.1", "lay 0", "lay 5", "back 5", "back 0", "tick 30")
        self.check_standing(desk, lies={"e": "r"}, places=places)

    def test_all_of_a_routes_sections_stay_locked(self):
        self.station = LONG
        desk = self.made("lay 2", "come t a.0", "lay 0", "head t", "head t", "back 2", "tick 29")
        self.check_standing(desk, locks=dict(b=0, c=0, d=2, e=2, f=2), waits={0: None, 2: 1},
                            places={"t": [("a", 0), ("b", 0), ("c", 0)]})
        do(desk, "tick 1")
        self.check_standing(desk, locks=dict(b=0, c=0), waits={0: None}, places={"t": [("a", 0), ("b", 0), ("c", 0)]})

    def test_laid_again_behind_a_wait(self):
        desk = self.made(*WAITING, "tick 30", "lay 0")
        self.assertTrue(desk.shows("ws"))
        self.check_standing(desk, locks={"one": 0}, places=AHEAD, waits={0: None})
        do(desk, "tick 7")
        do(desk, "back 0")
        self.check_standing(desk, locks={"one": 0}, places=AHEAD, waits={0: 30})

    def test_no_route_is_laid_over_one_that_waits(self):
        desk = self.made(*WAITING)
        self.check_barred(desk, "lay 0", ("route", "one", 0))
        self.check_barred(desk, "lay 1", ("train", "west", "t"), ("point", "w", 0))
        desk.tick(29)
        self.check_barred(desk, "lay 0", ("route", "one", 0))
        desk.tick(1)
        do(desk, "lay 0")


class Barred(DeskCase):
    station = LOOP

    def test_a_train_has_gone_into_it(self):
        desk = self.made("come t west.0", "lay 0", "head t")
        self.check_barred(desk, "back 0", ("train", "one", "t"))
        self.assertEqual([signal for signal in signals_of(LOOP) if desk.shows(signal)], [])

    def test_the_first_section_that_it_locks_still(self):
        self.station = LONG
        desk = self.made("come t a.0", "lay 0", "lay 2", *["head t"] * 3)
        self.check_barred(desk, "back 0", ("train", "b", "t"))
        self.check_barred(desk, "back 2", ("train", "d", "t"))
        do(desk, "tail t")
        self.check_barred(desk, "back 0", ("train", "b", "t"))
        do(desk, "tail t")
        self.check_barred(desk, "back 0", ("train", "c", "t"))
        do(desk, "head t")
        self.check_barred(desk, "back 2", ("train", "d", "t"))
        do(desk, "tail t")
        self.check_no_such(desk, desk.take_back, 0)
        do(desk, "tail t")
        self.check_barred(desk, "back 2", ("train", "e", "t"))
        do(desk, "head t")
        self.check_barred(desk, "back 2", ("train", "e", "t"))
        do(desk, "tail t")
        self.check_no_such(desk, desk.take_back, 2)

    def test_sections_that_another_route_locks_are_not_its_own(self):
        # Route 2 has let d go, and a signal on the way back makes another route lock it.
        self.station = LONG + "\nsignal w at e.0\nsignal z at d.0"
        desk = self.made("come t a.0", "lay 0", "lay 2", *["head t"] * 5, *["tail t"] * 4, "lay 5")
        self.check_standing(desk, locks=dict(d=5, e=2, f=2), places={"t": [("e", 0), ("f", 0)]},
                            waits={2: None, 5: None})
        self.check_barred(desk, "back 2", ("train", "e", "t"))
        self.check_barred(desk, "lay 2", ("route", "d", 5), ("train", "e", "t"), ("route", "e", 2),
                          ("train", "f", "t"), ("route", "f", 2))

    def test_a_train_ahead_of_the_signal_does_not_matter_then(self):
        self.station = TURNOFF
        desk = self.made("come t a.0", "lay 0", "head t", "tail t", "come u a.0")
        self.check_barred(desk, "back 0", ("train", "b", "t"))

    def test_a_route_that_is_not_laid(self):
        desk = self.made("come t west.0", "lay 0", "back 0", "tick 30")
        for number in range(8):
            self.check_no_such(desk, desk.take_back, number)
        desk = self.made("lay 0", "back 0")
        self.check_no_such(desk, desk.take_back, 0)
        desk = self.made("come t west.0", "lay 0", "head t", "tail t")
        self.check_no_such(desk, desk.take_back, 0)

    def test_a_route_that_is_not_there(self):
        desk = self.made("lay 0")
        for number in (8, 9, 100, -1, -8):
            self.check_no_such(desk, desk.take_back, number)


if __name__ == "__main__":
    unittest.main()
