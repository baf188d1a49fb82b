"""Points 7 to 10, 15 and 16: how a desk stands at first, what bars, laying, what signals show, points by hand."""

import unittest

from signalhouse import desks
from signalhouse.desks import Desk
from signalhouse.reading import read_layout
from tests.desk_case import DeskCase, desk_of, do, signals_of
from tests.stations import DESKS, LINE, LONG, LOOP, THREE_WAYS, TURNOFF

METHODS = ("lay", "take_back", "tick", "throw", "head", "tail", "leave", "come", "shows", "standing")


class AtFirst(DeskCase):
    def test_all_points_lie_n_and_nothing_else_is_there(self):
        for text in (*DESKS, "section a", "section a\nsection b\nlink a.1 b.0"):
            self.station = text
            desk = desk_of(text)
            self.check_standing(desk)
            for signal in signals_of(text):
                self.assertIs(desk.shows(signal), False)

    def test_the_interface(self):
        self.assertEqual(Desk.__module__, desks.__name__)
        for name in METHODS:
            self.assertIn(name, vars(Desk))

    def test_deeds_tell_nothing(self):
        desk = desk_of(LOOP)
        self.assertIsNone(desk.lay(0))
        self.assertIsNone(desk.take_back(0))
        self.assertIsNone(desk.throw("w", "r"))
        self.assertIsNone(desk.throw("w", "r"))
        self.assertIsNone(desk.throw("w", "n"))
        self.assertIsNone(desk.come("t", "west", 0))
        self.assertIsNone(desk.lay(0))
        self.assertIsNone(desk.take_back(0))
        self.assertIsNone(desk.tick(30))
        self.assertIsNone(desk.lay(0))
        self.assertIsNone(desk.head("t"))
        self.assertIsNone(desk.tail("t"))
        self.assertIsNone(desk.lay(2))
        self.assertIsNone(desk.head("t"))
        self.assertIsNone(desk.tail("t"))
        self.assertIsNone(desk.leave("t"))
        self.assertEqual(desk.standing(), desk_of(LOOP).standing())


class Laid(DeskCase):
    station = LOOP

    def test_a_route_locks_its_sections_and_moves_its_points(self):
        self.check_standing(self.made("lay 0"), locks={"one": 0}, waits={0: None})
        self.check_standing(self.made("lay 1"), lies={"w": "r"}, locks={"two": 1}, waits={1: None})
        self.check_standing(self.made("lay 3"), lies={"e": "r"}, locks={"east": 3}, waits={3: None})

    def test_points_are_moved_either_way(self):
        desk = self.made("lay 1", "back 1", "lay 0")
        self.check_standing(desk, locks={"one": 0}, waits={0: None})

    def test_only_wanted_points_are_moved(self):
        desk = self.made("throw e r", "lay 1")
        self.check_standing(desk, lies={"w": "r", "e": "r"}, locks={"two": 1}, waits={1: None})

    def test_several_points_and_sections(self):
        self.station = THREE_WAYS
        desk = self.made("lay 0")
        self.check_standing(desk, lies=dict(m="r", p="r", q="r"), locks={"d": 0, "z": 0}, waits={0: None})
        self.check_standing(self.made("throw q r", "lay 2"), lies={"p": "r"}, locks={"c": 2, "z": 2}, waits={2: None})
        self.station = LONG
        self.check_standing(self.made("lay 2"), locks={"d": 2, "e": 2, "f": 2}, waits={2: None})

    def test_routes_that_do_not_meet_are_laid_together(self):
        desk = self.made("lay 0", "lay 6", "lay 2")
        self.check_standing(desk, locks={"one": 0, "west": 6, "east": 2}, waits={0: None, 6: None, 2: None})

    def test_a_train_ahead_of_the_signal_bars_nothing_where_the_points_lie_so(self):
        desk = self.made("come t west.0", "lay 0")
        self.check_standing(desk, locks={"one": 0}, places={"t": [("west", 0)]}, waits={0: None})

    def test_no_such_route(self):
        for text, many in ((LINE, 3), (LOOP, 8), (THREE_WAYS, 6), ("section a", 0)):
            self.station = text
            for number in (many, many + 1, 60, 1000000, -1, -many - 1):
                desk = desk_of(text)
                self.check_no_such(desk, desk.lay, number)
                self.check_no_such(desk, desk.take_back, number)


class Bars(DeskCase):
    station = LOOP

    def test_a_train(self):
        desk = self.made("come t east.1")
        self.check_barred(desk, "lay 2", ("train", "east", "t"))
        self.check_barred(desk, "throw e r", ("train", "east", "t"))
        self.check_barred(desk, "come u east.1", ("train", "east", "t"))

    def test_a_route(self):
        desk = self.made("lay 2")
        self.check_barred(desk, "lay 2", ("route", "east", 2))
        self.check_barred(desk, "come u east.1", ("route", "east", 2))
        self.station = LINE
        desk = self.made("lay 0")
        self.check_barred(desk, "lay 0", ("route", "b", 0), ("route", "c", 0))
        self.check_barred(desk, "lay 2", ("route", "c", 0), ("route", "b", 0))

    def test_a_train_and_a_route_in_one_section(self):
        desk = self.made("come t west.0", "lay 0", "head t")
        self.check_barred(desk, "lay 4", ("train", "one", "t"), ("route", "one", 0))
        desk = self.made("come t west.0", "lay 0", "head t", "tail t", "lay 2", "head t")
        self.check_barred(desk, "throw e r", ("train", "east", "t"), ("route", "east", 2))
        self.check_barred(desk, "come u east.1", ("train", "east", "t"), ("route", "east", 2))
        self.check_barred(desk, "lay 3", ("train", "east", "t"), ("route", "east", 2))

    def test_a_point(self):
        desk = self.made("lay 0")
        self.check_barred(desk, "throw w r", ("point", "w", 0))
        self.check_barred(desk, "lay 1", ("point", "w", 0))

    def test_a_train_and_a_point(self):
        desk = self.made("come t west.0", "lay 0")
        self.check_barred(desk, "throw w r", ("train", "west", "t"), ("point", "w", 0))
        self.check_barred(desk, "lay 1", ("train", "west", "t"), ("point", "w", 0))

    def test_a_route_and_a_point(self):
        desk = self.made("lay 2")
        self.check_barred(desk, "throw e r", ("route", "east", 2), ("point", "e", 2))

    def test_the_lowest_number_of_a_route_that_wants_a_point(self):
        for deeds in (("lay 0", "lay 6"), ("lay 6", "lay 0")):
            desk = self.made(*deeds)
            self.check_barred(desk, "throw w r", ("route", "west", 6), ("point", "w", 0))
            self.check_barred(desk, "lay 1", ("route", "west", 6), ("point", "w", 0))
            desk.take_back(0)
            self.check_barred(desk, "throw w r", ("route", "west", 6), ("point", "w", 6))
        for deeds in (("lay 2", "lay 4"), ("lay 4", "lay 2")):
            self.check_barred(self.made(*deeds), "throw e r", ("route", "east", 2), ("point", "e", 2))

    def test_nothing_is_told_twice(self):
        desk = self.made("lay 6")
        self.check_barred(desk, "lay 7", ("route", "west", 6), ("point", "w", 6))
        desk = self.made("come t east.1")
        self.check_barred(desk, "lay 3", ("train", "east", "t"))
        desk = self.made("come t east.1", "lay 4")
        self.check_barred(desk, "lay 3", ("train", "east", "t"), ("point", "e", 4))

    def test_two_points_of_one_section_tell_what_bars_it_once(self):
        self.station = THREE_WAYS
        desk = self.made("come t a.0")
        self.check_barred(desk, "lay 0", ("train", "a", "t"))
        desk = self.made("come t a.0", "lay 1")
        self.check_barred(desk, "lay 0", ("train", "a", "t"), ("point", "p", 1))

    def test_sections_in_order_then_points_by_rising_names(self):
        self.station = LONG
        desk = self.made("lay 4", "come t a.0", "lay 0", "head t", "head t")
        self.check_barred(desk, "lay 2", ("route", "e", 4), ("route", "f", 4), ("point", "m", 4))
        self.check_barred(desk, "lay 1", ("train", "b", "t"), ("route", "b", 0))
        self.check_barred(desk, "lay 0", ("train", "b", "t"), ("route", "b", 0), ("train", "c", "t"), ("route", "c", 0))
        self.check_barred(desk, "throw m n", ("route", "e", 4), ("point", "m", 4))
        self.station = THREE_WAYS
        # p and q lie otherwise, and both belong to a, so that what bars a is told once, ahead of the points.
        desk = self.made("lay 5", "lay 1")
        self.check_barred(desk, "lay 0", ("route", "a", 5), ("point", "p", 1))
        desk = self.made("lay 3")
        self.check_barred(desk, "lay 0", ("point", "m", 3), ("route", "a", 3), ("point", "q", 3))
        desk = self.made("lay 2")
        self.check_barred(desk, "lay 0", ("route", "z", 2), ("point", "m", 2), ("point", "q", 2))

    def test_points_that_lie_so_bar_nothing(self):
        # w lies as route 6 wants it, so that route 0 doesn't bar it.
        desk = self.made("lay 0", "lay 6")
        self.check_standing(desk, locks={"one": 0, "west": 6}, waits={0: None, 6: None})
        desk = self.made("come t west.0")
        self.check_barred(desk, "lay 6", ("train", "west", "t"))

    def test_a_route_into_which_a_train_has_gone_bars_its_sections_but_not_its_points(self):
        self.station = LONG
        desk = self.made("come t a.0", "lay 0", "head t", "head t", "tail t")
        self.check_barred(desk, "throw k r", ("train", "b", "t"), ("route", "b", 0))
        do(desk, "tail t")
        self.check_standing(desk, places={"t": [("c", 0)]})
        do(desk, "throw k r")
        self.check_standing(desk, lies={"k": "r"}, places={"t": [("c", 0)]})
        self.station = LOOP
        desk = self.made("come t west.0", "lay 0", "head t")
        self.check_barred(desk, "throw w r", ("train", "west", "t"))

    def test_a_point_is_free_while_its_route_is_laid_still(self):
        # p belongs to the signal's section, and the train has left it.
        self.station = TURNOFF
        desk = self.made("come t a.0", "lay 0", "head t", "head t", "tail t")
        locks, places, waits = {"b": 0, "c": 0, "d": 0}, {"t": [("b", 0), ("c", 0)]}, {0: None}
        self.check_standing(desk, locks=locks, places=places, waits=waits)
        do(desk, "throw p r")
        self.check_standing(desk, lies={"p": "r"}, locks=locks, places=places, waits=waits)

    def test_a_route_that_waits_bars_as_before(self):
        desk = self.made("come t west.0", "lay 0", "back 0")
        self.check_barred(desk, "throw w r", ("train", "west", "t"), ("point", "w", 0))
        self.check_barred(desk, "lay 4", ("route", "one", 0))

    def test_no_such_route_ahead_of_what_bars(self):
        desk = self.made("come t west.0", "lay 0", "head t")
        self.check_no_such(desk, desk.lay, 8)
        self.check_no_such(desk, desk.throw, "x", "r")


class Shows(DeskCase):
    station = LOOP

    def shown(self, desk):
        for signal in signals_of(self.station):
            self.assertIs(type(desk.shows(signal)), bool)
        return [signal for signal in signals_of(self.station) if desk.shows(signal)]

    def test_a_signal_shows_where_a_route_from_it_is_laid(self):
        for number, signal in enumerate(("ws", "ws", "o1", "t1", "es", "es", "o0", "t0")):
            desk = self.made(f"lay {number}")
            self.assertEqual(self.shown(desk), [signal])
            desk.take_back(number)
            self.assertEqual(self.shown(desk), [])

    def test_several_signals_show(self):
        self.assertEqual(self.shown(self.made("lay 0", "lay 6", "lay 2")), ["ws", "o1", "o0"])

    def test_no_more_once_a_train_has_gone_into_it(self):
        desk = self.made("come t west.0")
        self.assertEqual(self.shown(desk), [])
        do(desk, "lay 0")
        self.assertEqual(self.shown(desk), ["ws"])
        do(desk, "head t")
        self.assertEqual(self.shown(desk), [])
        do(desk, "tail t")
        self.assertEqual(self.shown(desk), [])

    def test_not_while_it_waits(self):
        desk = self.made("come t west.0", "lay 0", "back 0")
        self.assertEqual(self.shown(desk), [])
        do(desk, "tick 30")
        self.assertEqual(self.shown(desk), [])
        do(desk, "lay 0")
        self.assertEqual(self.shown(desk), ["ws"])

    def test_again_by_another_route_while_the_first_is_run_through(self):
        self.station = TURNOFF
        desk = self.made("come t a.0", "lay 0", "head t", "head t", "tail t", "lay 1")
        self.check_standing(desk, lies={"p": "r"}, locks={"b": 0, "c": 0, "d": 0, "e": 1},
                            places={"t": [("b", 0), ("c", 0)]}, waits={0: None, 1: None})
        self.assertEqual(self.shown(desk), ["s"])

    def test_no_such_signal(self):
        for name in ("x", "w", "west", "0", "", "WS"):
            desk = self.made("lay 0")
            self.check_no_such(desk, desk.shows, name)
        self.station = "section a"
        desk = self.made()
        self.check_no_such(desk, desk.shows, "s")


class Thrown(DeskCase):
    station = LOOP

    def test_a_point_is_moved_to_a_lie(self):
        desk = self.made("throw w r")
        self.check_standing(desk, lies={"w": "r"})
        do(desk, "throw e r")
        self.check_standing(desk, lies={"w": "r", "e": "r"})
        do(desk, "throw w n")
        self.check_standing(desk, lies={"e": "r"})

    def test_to_the_lie_in_which_it_lies(self):
        for deeds in ((), ("lay 0", "lay 6"), ("come t west.0",), ("come t west.0", "lay 0"), ("lay 7", "throw w r")):
            desk = self.made(*deeds)
            before = desk.standing()
            do(desk, f"throw w {before[0]['w']}")
            self.assertEqual(desk.standing(), before)

    def test_no_such_point(self):
        for name in ("x", "ws", "west", "", "W", "n"):
            for lie in "nr":
                desk = self.made("lay 0")
                self.check_no_such(desk, desk.throw, name, lie)
        self.station = LINE
        desk = self.made()
        self.check_no_such(desk, desk.throw, "p", "n")


class Apart(DeskCase):
    station = LOOP

    def test_two_desks_of_one_station(self):
        layout = read_layout(LOOP)
        one, other = Desk(layout), Desk(layout)
        for deed in ("come t west.0", "lay 0", "throw e r", "head t"):
            do(one, deed)
        self.check_standing(other)
        do(other, "lay 1")
        self.check_standing(other, lies={"w": "r"}, locks={"two": 1}, waits={1: None})
        self.check_standing(Desk(layout))

    def test_bars_may_be_changed(self):
        desk = self.made("come t west.0", "lay 0", "head t")
        first = self.refused(desk, desk.lay, 4)
        first.bars.clear()
        self.check_barred(desk, "lay 4", ("train", "one", "t"), ("route", "one", 0))

    def test_what_standing_tells_may_be_changed(self):
        desk = self.made("come t west.0", "lay 0", "head t", "lay 2")
        lies, locks, places, waits = desk.standing()
        lies["w"] = "r"
        lies.pop("e")
        locks.clear()
        places["t"].pop()
        places["u"] = [("east", 1)]
        waits[2] = 1
        waits.pop(0)
        self.check_standing(desk, locks={"one": 0, "east": 2}, places={"t": [("west", 0), ("one", 0)]},
                            waits={0: None, 2: None})

    def test_what_was_told_stays_when_the_desk_goes_on(self):
        desk = self.made("come t west.0", "lay 0")
        told = desk.standing()
        do(desk, "head t")
        self.assertEqual(told, ({"w": "n", "e": "n"}, {"one": 0}, {"t": [("west", 0)]}, {0: None}))


if __name__ == "__main__":
    unittest.main()
