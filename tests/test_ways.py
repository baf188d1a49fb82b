"""Point 5: the routes of a station, how they are told and numbered."""

import unittest
from itertools import product

from signalhouse import ways
from signalhouse.desks import Desk
from signalhouse.errors import HouseError, TooMany
from signalhouse.reading import read_layout
from signalhouse.ways import Route, routes_of
from tests.stations import DESKS, FORK, GOOD, LINE, LONG, LOOP, THREE_WAYS, joined, names

ABC = joined("section a", "section b", "section c", "section d")


def told_routes(*rows):
    return [route.told() for route in routes_of(read_layout(joined(*rows)))]


def fan(many, *rest):
    """A station in which a signal has so many routes, one over each of as many links from a to b."""
    points = names("p", 6)
    rows = ["section a", "section b", "section c", "section d", *[f"point {point} in a" for point in points]]
    for code in range(many):
        lies = ["r" if code >> at & 1 else "n" for at in range(6)]
        rows.append("link a.1 b.0 when " + " and ".join(f"{point} {lie}" for point, lie in zip(points, lies)))
    return joined(*rows, *rest)


def chain(many):
    """A station in which a signal has 2 to the power of many routes: two links each from section to section."""
    sections, points = names("s", many + 1), names("p", many)
    rows = [f"section {section}" for section in sections]
    rows += [f"point {point} in {section}" for point, section in zip(points, sections)]
    for at, point in enumerate(points):
        rows += [f"link {sections[at]}.1 {sections[at + 1]}.0 when {point} {lie}" for lie in "nr"]
    return joined(*rows, f"signal sig at {sections[0]}.1")


def links_at(layout, end):
    return [link for link in layout.links if end in link[:2]]


def walked_from(layout, name, start, lies):
    """The route that begins at a signal with the points lying so, or None; found by walking over open links."""
    targets = {end: signal for signal, end in layout.signals}
    end, sections, wanted = start, [start[0]], set()
    while True:
        ways_on = [link for link in links_at(layout, end) if all(lies[point] == lie for point, lie in link[2])]
        if not ways_on:
            return None
        one, other, wants = ways_on[0]
        section, side = other if end == one else one
        if section in sections:
            return None
        sections.append(section)
        wanted |= set(wants)
        end = (section, 1 - side)
        if end in targets or not links_at(layout, end):
            return (name, targets.get(end), tuple(sections[1:]), tuple(sorted(wanted)))


def walked(layout):
    """All routes of a station, as a set, found with the points in each of their lies."""
    points = [point for point, _ in layout.points]
    found = set()
    for chosen in product("nr", repeat=len(points)):
        for name, start in layout.signals:
            found.add(walked_from(layout, name, start, dict(zip(points, chosen))))
    return found - {None}


class Told(unittest.TestCase):
    def test_plain_links_and_signals_on_the_way(self):
        self.assertEqual(told_routes(LINE), [
            ("s", "t", ("b", "c"), ()),
            ("t", None, ("d",), ()),
            ("u", None, ("c", "b", "a"), ()),
        ])

    def test_points_of_either_section_of_a_link(self):
        self.assertEqual(told_routes(LOOP), [
            ("ws", "o1", ("one",), (("w", "n"),)),
            ("ws", "t1", ("two",), (("w", "r"),)),
            ("o1", None, ("east",), (("e", "n"),)),
            ("t1", None, ("east",), (("e", "r"),)),
            ("es", "o0", ("one",), (("e", "n"),)),
            ("es", "t0", ("two",), (("e", "r"),)),
            ("o0", None, ("west",), (("w", "n"),)),
            ("t0", None, ("west",), (("w", "r"),)),
        ])

    def test_routes_with_a_target_and_with_none(self):
        self.assertEqual(told_routes(LONG), [
            ("s", "t", ("b", "c"), (("k", "n"),)),
            ("s", None, ("b", "x"), (("k", "r"),)),
            ("t", "u", ("d", "e", "f"), (("m", "n"),)),
            ("u", None, ("g", "h"), ()),
            ("v", "u", ("e", "f"), (("m", "r"),)),
        ])
        self.assertEqual(told_routes(FORK), [
            ("in1", None, ("left",), (("p1", "n"),)),
            ("in1", "out", ("right", "yard"), (("p1", "r"), ("q", "n"))),
            ("out", None, ("right", "main"), (("p1", "r"), ("q", "r"))),
            ("back", None, ("main",), (("p1", "n"),)),
        ])

    def test_two_points_make_three_ways(self):
        self.assertEqual(told_routes(THREE_WAYS), [
            ("s", None, ("d", "z"), (("m", "r"), ("p", "r"), ("q", "r"))),
            ("s", None, ("b",), (("p", "n"),)),
            ("s", None, ("c", "z"), (("m", "n"), ("p", "r"), ("q", "n"))),
            ("back", None, ("c", "a"), (("m", "n"), ("p", "r"), ("q", "n"))),
            ("back", None, ("d", "a"), (("m", "r"), ("p", "r"), ("q", "r"))),
            ("off", None, ("a",), (("p", "n"),)),
        ])

    def test_the_kinds_of_what_is_told(self):
        for text in DESKS:
            routes = routes_of(read_layout(text))
            self.assertIs(type(routes), list)
            for route in routes:
                self.assertIs(type(route), Route)
                signal, _, sections, wants = route.told()
                self.assertIs(type(route.told()), tuple)
                self.assertIs(type(signal), str)
                self.assertIs(type(sections), tuple)
                self.assertIs(type(wants), tuple)
                self.assertTrue(all(type(want) is tuple and len(want) == 2 for want in wants))
        self.assertEqual((Route.__module__, routes_of.__module__), (ways.__name__, ways.__name__))
        self.assertIn("told", vars(Route))

    def test_wants_stand_by_rising_points_and_once_each(self):
        rows = (ABC, "point z in a", "point p2 in b", "point p10 in b", "point 9 in c",
                "link a.1 b.0 when p2 n and z n", "link b.1 c.0 when p10 r and p2 n", "link c.1 d.0 when 9 r",
                "signal s at a.1")
        self.assertEqual(told_routes(*rows), [
            ("s", None, ("b", "c", "d"), (("9", "r"), ("p10", "r"), ("p2", "n"), ("z", "n"))),
        ])


class Ends(unittest.TestCase):
    def test_no_links_at_the_signals_end(self):
        self.assertEqual(told_routes("section a", "signal s at a.1"), [])
        self.assertEqual(told_routes(ABC, "link a.1 b.0", "signal s at a.0", "signal t at b.1"), [])

    def test_no_signals(self):
        self.assertEqual(told_routes("section a"), [])
        self.assertEqual(told_routes(ABC, "link a.1 b.0", "link b.1 c.0"), [])

    def test_a_signal_at_an_end_without_links_is_a_target(self):
        self.assertEqual(told_routes(ABC, "link a.1 b.0", "signal s at a.1", "signal t at b.1"),
                         [("s", "t", ("b",), ())])

    def test_only_a_signal_at_the_end_of_leaving_ends_a_route(self):
        rows = (ABC, "link a.1 b.0", "link b.1 c.0", "link c.1 d.0", "signal s at a.1")
        way = [("s", None, ("b", "c", "d"), ())]
        self.assertEqual(told_routes(*rows), way)
        for end in ("a.0", "b.0", "c.0", "d.0"):
            self.assertEqual([told for told in told_routes(*rows, f"signal t at {end}") if told[0] == "s"], way)
        for end, passed in (("b.1", ("b",)), ("c.1", ("b", "c")), ("d.1", ("b", "c", "d"))):
            self.assertEqual(told_routes(*rows, f"signal t at {end}")[0], ("s", "t", passed, ()))
        self.assertEqual(told_routes(*rows, "signal t at c.1", "signal u at b.1")[0], ("s", "u", ("b",), ()))

    def test_sections_are_left_by_the_other_end(self):
        rows = (ABC, "link a.1 b.1", "link c.1 b.0", "link c.0 d.1", "signal s at a.1")
        self.assertEqual(told_routes(*rows), [("s", None, ("b", "c", "d"), ())])
        # The other links of the end by which b is entered are no way on.
        rows = (ABC, "point p in b", "link a.1 b.0 when p n", "link b.0 c.1 when p r", "signal s at a.1")
        self.assertEqual(told_routes(*rows), [("s", None, ("b",), (("p", "n"),))])

    def test_no_route_comes_back_into_its_signals_section(self):
        self.assertEqual(told_routes(ABC, "link a.1 b.0", "link b.1 a.0", "signal s at a.1"), [])
        self.assertEqual(told_routes(ABC, "link a.1 b.0", "link b.1 c.0", "link c.1 a.0", "signal s at a.1"), [])
        rows = (ABC, "point p in b", "link a.1 b.0", "link b.1 a.0 when p n", "link b.1 c.0 when p r")
        self.assertEqual(told_routes(*rows, "signal s at a.1"), [("s", None, ("b", "c"), (("p", "r"),))])
        # Even where the route would end there.
        self.assertEqual(told_routes(ABC, "link a.1 b.0", "link b.1 a.0", "signal s at a.1", "signal t at a.0"), [])

    def test_no_route_goes_into_a_section_twice(self):
        rows = (ABC, "point p in b", "point q in b", "link a.1 b.0 when q n", "link b.1 c.0 when p n",
                "link b.1 d.0 when p r", "signal s at a.1")
        self.assertEqual(told_routes(*rows[:-1], "link c.1 b.0 when q r", "signal s at a.1"),
                         [("s", None, ("b", "d"), (("p", "r"), ("q", "n")))])
        self.assertEqual(told_routes(*rows[:-1], "link c.1 d.1", "signal s at a.1"), [])

    def test_links_whose_wants_do_not_go_together(self):
        rows = (ABC, "point p in b", "link a.1 b.0 when p n", "link b.1 c.0 when p r")
        self.assertEqual(told_routes(*rows, "signal s at a.1"), [])
        self.assertEqual(told_routes(*rows, "link b.1 d.0 when p n", "signal s at a.1"),
                         [("s", None, ("b", "d"), (("p", "n"),))])
        # One of several points is enough, and the others go together.
        rows = (ABC, "point p in b", "point q in b", "link a.1 b.0 when p n and q r", "link b.1 c.0 when p n and q n")
        self.assertEqual(told_routes(*rows, "signal s at a.1"), [])
        self.assertEqual(told_routes(*rows, "link b.1 d.0 when p n and q r", "signal s at a.1"),
                         [("s", None, ("b", "d"), (("p", "n"), ("q", "r")))])

    def test_every_way_over_open_links_is_a_route_and_no_other(self):
        for text in (*DESKS, *GOOD, chain(4), fan(20, "signal s at a.1", "signal t at b.0")):
            layout = read_layout(text)
            told = [route.told() for route in routes_of(layout)]
            self.assertEqual(len(told), len(set(told)))
            self.assertEqual(set(told), walked(layout))


class Numbered(unittest.TestCase):
    def test_signals_as_they_are_told(self):
        rows = (ABC, "link a.1 b.0", "link c.1 d.0")
        self.assertEqual([told[0] for told in told_routes(*rows, "signal z at a.1", "signal a1 at c.1")], ["z", "a1"])
        self.assertEqual([told[0] for told in told_routes(*rows, "signal a1 at c.1", "signal z at a.1")], ["a1", "z"])

    def test_links_as_they_are_told(self):
        links = ("link a.1 b.0 when p n", "link c.0 a.1 when p r")
        for first, second, order in ((*links, [("b",), ("c",)]), (*links[::-1], [("c",), ("b",)])):
            told = told_routes(ABC, "point p in a", first, second, "signal s at a.1")
            self.assertEqual([sections for _, _, sections, _ in told], order)

    def test_the_first_link_by_which_they_differ(self):
        # Links that are told ahead of all others come second on the ways.
        told = told_routes(ABC, "section e", "section f", "section g", "point p in a", "point q in b", "point t in c",
                           "link c.1 e.0 when t r", "link b.1 d.0 when q r", "link c.0 a.1 when p r",
                           "link a.1 b.0 when p n", "link f.1 b.1 when q n", "link c.1 g.1 when t n", "signal s at a.1")
        self.assertEqual([(sections, wants) for _, _, sections, wants in told], [
            (("c", "e"), (("p", "r"), ("t", "r"))),
            (("c", "g"), (("p", "r"), ("t", "n"))),
            (("b", "d"), (("p", "n"), ("q", "r"))),
            (("b", "f"), (("p", "n"), ("q", "n"))),
        ])

    def test_routes_of_one_beginning_differ_further_on(self):
        self.assertEqual([wants for _, _, _, wants in told_routes(chain(2))], [
            (("p10", "n"), ("p11", "n")), (("p10", "n"), ("p11", "r")),
            (("p10", "r"), ("p11", "n")), (("p10", "r"), ("p11", "r")),
        ])
        rows = chain(2).split("\n")
        turned = [*rows[:5], *rows[8:4:-1], *rows[9:]]
        self.assertEqual([wants for _, _, _, wants in told_routes(*turned)], [
            (("p10", "r"), ("p11", "r")), (("p10", "r"), ("p11", "n")),
            (("p10", "n"), ("p11", "r")), (("p10", "n"), ("p11", "n")),
        ])

    def test_the_same_station_has_the_same_numbers(self):
        for text in DESKS:
            self.assertEqual(told_routes(text), told_routes(text))


class Many(unittest.TestCase):
    def check_too_many(self, text):
        layout = read_layout(text)
        for call in (routes_of, Desk):
            with self.assertRaises(HouseError) as caught:
                call(layout)
            self.assertIs(type(caught.exception), TooMany)
            self.assertIsInstance(caught.exception, ValueError)

    def test_60_routes_of_one_signal(self):
        routes = routes_of(read_layout(fan(60, "signal s at a.1")))
        self.assertEqual(len(routes), 60)
        Desk(read_layout(fan(60, "signal s at a.1"))).lay(59)

    def test_60_and_61_routes_of_several_signals(self):
        self.assertEqual(len(told_routes(fan(59, "link c.1 d.0", "signal s at a.1", "signal t at c.1"))), 60)
        self.check_too_many(fan(59, "link c.1 d.0", "signal s at a.1", "signal t at c.1", "signal u at d.0"))
        self.assertEqual(len(told_routes(fan(30, "signal s at a.1", "signal t at b.0"))), 60)
        self.check_too_many(fan(31, "signal s at a.1", "signal t at b.0"))

    def test_many_more(self):
        self.check_too_many(chain(6))
        self.check_too_many(chain(12))

    def test_ways_that_come_to_nothing_are_not_counted(self):
        rows = chain(12).split("\n")
        ring = joined(*rows[:-1], "link s22.1 s10.0", rows[-1])
        self.assertEqual(told_routes(ring), [])


class Apart(unittest.TestCase):
    def test_a_list_of_routes_may_be_changed(self):
        layout = read_layout(LOOP)
        routes = routes_of(layout)
        before = [route.told() for route in routes]
        routes.pop()
        routes.reverse()
        self.assertEqual([route.told() for route in routes_of(layout)], before)

    def test_what_is_told_is_nothing_that_can_be_changed(self):
        for text in DESKS:
            for route in routes_of(read_layout(text)):
                hash(route.told())


if __name__ == "__main__":
    unittest.main()
