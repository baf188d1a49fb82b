"""Point 6: which routes meet, and which are greatest sets."""

import unittest
from itertools import combinations

from signalhouse import together
from signalhouse.errors import HouseError, TooMany
from signalhouse.reading import read_layout
from signalhouse.together import clashes, greatest_sets
from signalhouse.ways import routes_of
from tests.stations import DESKS, LINE, LOOP, joined, names


def routes(text):
    return routes_of(read_layout(text))


def lone_routes(many):
    """So many routes of which no two meet."""
    starts, ends = names("a", many), names("b", many)
    rows = [f"section {section}" for section in starts + ends]
    rows += [f"link {start}.1 {end}.0" for start, end in zip(starts, ends)]
    rows += [f"signal {name} at {start}.1" for name, start in zip(names("s", many), starts)]
    return routes(joined(*rows))


def have_common(one, other):
    return bool(set(one.told()[2]) & set(other.told()[2]))


def expected_clashes(chosen):
    return [(low, high) for low, high in combinations(range(len(chosen)), 2) if have_common(chosen[low], chosen[high])]


def expected_sets(chosen):
    """All sets of which no two meet and which aren't a part of another such set."""
    pairs = set(expected_clashes(chosen))
    free = []
    for many in range(len(chosen) + 1):
        free += [set(some) for some in combinations(range(len(chosen)), many) if not pairs & set(combinations(some, 2))]
    return sorted(sorted(some) for some in free if not any(some < other for other in free))


def some_lists():
    """Lists of routes: of each station all, some, in other orders, and with routes that come more than once."""
    for text in DESKS:
        every = routes(text)
        for many in range(len(every) + 1):
            yield every[:many]
            yield every[many:][::-1]
        yield every[::2] + every[1::2]
        yield every[:3] + every[:2]


class Clashes(unittest.TestCase):
    def test_routes_with_a_common_section_meet(self):
        self.assertEqual(clashes(routes(LINE)), [(0, 2)])
        self.assertEqual(clashes(routes(LOOP)), [(0, 4), (1, 5), (2, 3), (6, 7)])

    def test_the_section_of_its_signal_is_none_of_a_route(self):
        # Route 1 of LINE begins in c, in which route 0 ends; route 0 begins in a, in which route 2 ends.
        self.assertNotIn((0, 1), clashes(routes(LINE)))
        two = routes("section a\nsection b\nlink a.1 b.0\nsignal s at a.1\nsignal t at b.0")
        self.assertEqual([route.told()[2] for route in two], [("b",), ("a",)])
        self.assertEqual(clashes(two), [])

    def test_none_and_one(self):
        self.assertEqual(clashes([]), [])
        self.assertEqual(clashes(routes(LINE)[:1]), [])

    def test_numbers_are_places_in_the_list(self):
        every = routes(LINE)
        self.assertEqual(clashes([every[2], every[1], every[0]]), [(0, 2)])
        self.assertEqual(clashes([every[1], every[0], every[2]]), [(1, 2)])
        self.assertEqual(clashes([every[0], every[0], every[1], every[0]]), [(0, 1), (0, 3), (1, 3)])

    def test_all_pairs_rising(self):
        for chosen in some_lists():
            told = clashes(chosen)
            self.assertIs(type(told), list)
            self.assertTrue(all(type(pair) is tuple for pair in told))
            self.assertEqual(told, expected_clashes(chosen))

    def test_more_than_14_routes(self):
        one = routes(LINE)[:1]
        self.assertEqual(clashes(one * 20), list(combinations(range(20), 2)))


class GreatestSets(unittest.TestCase):
    def test_of_a_station(self):
        self.assertEqual(greatest_sets(routes(LINE)), [[0, 1], [1, 2]])
        self.assertEqual(len(greatest_sets(routes(LOOP))), 16)
        self.assertEqual(greatest_sets(routes(LOOP))[0], [0, 1, 2, 6])
        self.assertEqual(greatest_sets(routes(LOOP))[-1], [3, 4, 5, 7])

    def test_no_routes(self):
        self.assertEqual(greatest_sets([]), [[]])

    def test_one_route(self):
        self.assertEqual(greatest_sets(routes(LINE)[2:]), [[0]])

    def test_routes_that_all_meet_and_that_never_meet(self):
        self.assertEqual(greatest_sets(routes(LINE)[:1] * 5), [[0], [1], [2], [3], [4]])
        self.assertEqual(greatest_sets(lone_routes(5)), [[0, 1, 2, 3, 4]])

    def test_a_set_of_fewer_routes_may_be_a_greatest_one(self):
        every = routes(LINE)
        self.assertEqual(greatest_sets([every[0], every[2], every[1]]), [[0, 2], [1, 2]])
        far = routes("section a\nsection b\nsection c\nsection d\nlink a.1 b.0\nlink b.1 c.0\nlink d.1 c.1\n"
                     "signal s at a.1\nsignal t at b.1\nsignal u at d.1")
        self.assertEqual([route.told()[2] for route in far], [("b",), ("c", "d"), ("c", "b", "a")])
        self.assertEqual(greatest_sets(far), [[0, 1], [2]])

    def test_all_sets_rising(self):
        for chosen in some_lists():
            told = greatest_sets(chosen)
            self.assertIs(type(told), list)
            self.assertTrue(all(type(numbers) is list for numbers in told))
            self.assertEqual(told, expected_sets(chosen))

    def test_14_routes(self):
        self.assertEqual(greatest_sets(lone_routes(14)), [list(range(14))])
        self.assertEqual(greatest_sets(routes(LINE)[:1] * 14), [[number] for number in range(14)])
        mixed = (routes(LOOP) + routes(LOOP))[:14]
        self.assertEqual(greatest_sets(mixed), expected_sets(mixed))

    def test_15_routes_are_too_many(self):
        for chosen in (lone_routes(15), routes(LINE)[:1] * 15, routes(LOOP) * 3):
            with self.assertRaises(HouseError) as caught:
                greatest_sets(chosen)
            self.assertIs(type(caught.exception), TooMany)
            self.assertIsInstance(caught.exception, ValueError)


class Apart(unittest.TestCase):
    def test_the_routes_that_are_handed_in_stay_as_they_are(self):
        for chosen in some_lists():
            before, told = list(chosen), [route.told() for route in chosen]
            clashes(chosen)
            greatest_sets(chosen)
            self.assertEqual(chosen, before)
            self.assertEqual([route.told() for route in chosen], told)

    def test_what_is_told_may_be_changed(self):
        every = routes(LOOP)
        pairs, sets = clashes(every), greatest_sets(every)
        pairs.clear()
        sets[0].append(99)
        sets.pop()
        self.assertEqual(clashes(every), expected_clashes(every))
        self.assertEqual(greatest_sets(every), expected_sets(every))

    def test_where_it_is_defined(self):
        self.assertEqual((clashes.__module__, greatest_sets.__module__), (together.__name__, together.__name__))


if __name__ == "__main__":
    unittest.main()
