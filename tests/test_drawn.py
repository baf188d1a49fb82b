"""Points 1 and 7 to 17 over many drawn deeds: what never happens, and that the program does what plain.py says."""

import copy
import unittest
from collections import Counter

from signalhouse.book import book_text, done_again
from signalhouse.desks import Desk
from signalhouse.errors import Barred, NoSuch
from signalhouse.reading import read_layout
from tests.plain import NO_SUCH, Plain
from tests.stations import DESKS, LOOP, TURNOFF

TRAINS = ("t", "u", "vv")
WORDS = ("head", "head", "tail", "lay", "lay", "come", "leave", "throw", "back", "back", "tick")
TICKS = (1, 2, 7, 15, 30)


def numbers(start, many):
    """A fixed list of numbers that look as if they were drawn."""
    drawn = []
    for _ in range(many):
        start = (start * 6364136223846793005 + 1442695040888963407) % 2 ** 64
        drawn.append(start >> 33)
    return drawn


def any_deed(plain, number):
    """The deed that a number stands for on a station; now and then one of something that isn't there."""
    word = WORDS[number % len(WORDS)]
    number //= len(WORDS)
    layout = plain.layout
    if word in ("lay", "back"):
        return (word, number % (len(plain.routes) + (number % 7 == 0)))
    if word == "tick":
        return (word, TICKS[number % len(TICKS)])
    if word == "throw":
        points = [point for point, _ in layout.points] + ["nobody"][:1 if number % 5 == 0 or not layout.points else 0]
        return (word, points[number // 2 % len(points)], "nr"[number % 2])
    train = TRAINS[number % len(TRAINS)]
    if word != "come":
        return (word, train)
    ends = [(section, side) for section in layout.sections for side in (0, 1)]
    chosen = (*ends, ("nobody", 0)) if number % 5 == 0 else outer_ends(plain)
    return (word, train, *chosen[number // 15 % len(chosen)])


def outer_ends(plain):
    ends = [(section, side) for section in plain.layout.sections for side in (0, 1)]
    return [end for end in ends if not plain.linked(end)]


def drawn_deed(plain, number):
    """The deed that a number stands for; every other one runs a train or lays a route, if any can be."""
    runs = [(word, train) for train in TRAINS for word in ("head", "tail", "leave")]
    lays = [("lay", route) for route in range(len(plain.routes))]
    comes = [("come", train, *end) for train in TRAINS for end in outer_ends(plain)]
    deeds = ((), runs, (), lays, (), runs, (), comes)[number % 8]
    may_be = [deed for deed in deeds if plain.why_not(deed) == []]
    number //= 8
    return may_be[number % len(may_be)] if may_be else any_deed(plain, number)


def do(desk, deed):
    word, *told = deed
    methods = {"lay": desk.lay, "back": desk.take_back, "tick": desk.tick, "throw": desk.throw, "come": desk.come,
               "head": desk.head, "tail": desk.tail, "leave": desk.leave}
    methods[word](*told)


def outcome(desk, deed):
    """NO_SUCH, or the list of what bars, empty where the deed was done."""
    try:
        do(desk, deed)
    except NoSuch as error:
        assert type(error) is NoSuch
        return NO_SUCH
    except Barred as error:
        assert type(error) is Barred and error.bars
        return error.bars
    return []


def signals_shown(desk, layout):
    return {signal for signal, _ in layout.signals if desk.shows(signal)}


class Checked:
    """A desk of a station beside a plain one, on which deeds are done and checked."""

    def __init__(self, case, text):
        self.case = case
        self.layout = read_layout(text)
        self.desk = Desk(self.layout)
        self.plain = Plain(self.layout)
        self.owners = dict(self.layout.points)

    def do(self, deed):
        """Do a deed on both; what it came to is given back."""
        before, book = self.desk.standing(), book_text(self.desk)
        expected = self.plain.why_not(deed)
        told = outcome(self.desk, deed)
        self.case.assertEqual(told, expected, deed)
        after = self.desk.standing()
        if expected == []:
            self.plain.do(deed)
            self.case.assertTrue(book_text(self.desk).startswith(book))
        else:
            self.case.assertEqual(after, before)
            self.case.assertEqual(book_text(self.desk), book)
        self.case.assertEqual(after, self.plain.standing())
        self.case.assertEqual(signals_shown(self.desk, self.layout), self.plain.shown())
        self.check_places(after)
        self.check_locks(after)
        self.check_moves(before, after)
        return told

    def check_places(self, standing):
        """No section is in two places, and places stand one behind another by links that are open."""
        lies, _, places, _ = standing
        stood = [section for ends in places.values() for section, _ in ends]
        self.case.assertEqual(len(stood), len(set(stood)))
        for ends in places.values():
            for (section, side), into in zip(ends, ends[1:]):
                out = (section, 1 - side)
                between = [wants for one, other, wants in self.layout.links if {one, other} == {out, into}]
                self.case.assertTrue(any(all(lies[point] == lie for point, lie in wants) for wants in between))

    def check_locks(self, standing):
        """Each laid route locks some of its sections, and nothing is locked but by a laid route."""
        _, locks, _, waits = standing
        self.case.assertEqual(set(locks.values()), set(waits))
        for section, number in locks.items():
            self.case.assertIn(section, self.plain.routes[number][2])
        self.case.assertTrue(all(left is None or 1 <= left <= 30 for left in waits.values()))

    def check_moves(self, before, after):
        """No point moved in a section that was locked or stood in; heads went into locked and empty sections."""
        stood = {section for ends in before[2].values() for section, _ in ends}
        for point, lie in after[0].items():
            if lie != before[0][point]:
                self.case.assertNotIn(self.owners[point], stood)
                self.case.assertNotIn(self.owners[point], before[1])
        for train, ends in after[2].items():
            if train in before[2] and ends[-1] != before[2][train][-1]:
                self.case.assertIn(ends[-1][0], before[1])
                self.case.assertNotIn(ends[-1][0], stood)
                self.case.assertEqual(ends[:-1], before[2][train])


class Drawn(unittest.TestCase):
    def test_many_drawn_deeds(self):
        came = Counter()
        for at, text in enumerate(DESKS):
            # Trains may come to bar each other for good, so that it is well to begin anew at times.
            for start in range(40):
                checked = Checked(self, text)
                for number in numbers(100 * at + start, 100):
                    deed = drawn_deed(checked.plain, number)
                    told = checked.do(deed)
                    came[deed[0], "no such" if told == NO_SUCH else "barred" if told else "done"] += 1
                    came.update([] if told == NO_SUCH else [(bar[0], len(told) > 1) for bar in told])
                self.check_book(text, checked.desk)
        for word in ("lay", "back", "tick", "throw", "come", "head", "tail", "leave"):
            self.assertGreater(came[word, "done"], 60, word)
        for word in ("lay", "back", "throw", "come", "head"):
            self.assertGreater(came[word, "barred"], 30, word)
        for word in ("lay", "back", "throw", "come", "head", "tail", "leave"):
            self.assertGreater(came[word, "no such"], 30, word)
        for kind in ("train", "route", "point"):
            self.assertGreater(came[kind, False], 20, kind)
            self.assertGreater(came[kind, True], 30, kind)
        self.assertGreater(came["stop", False], 30)

    def check_book(self, text, desk):
        """The book of a desk, done again, leads to one that stands the same and has the same book."""
        layout = read_layout(text)
        repeated = done_again(layout, book_text(desk))
        self.assertEqual(repeated.standing(), desk.standing())
        self.assertEqual(book_text(repeated), book_text(desk))
        self.assertEqual(signals_shown(repeated, layout), signals_shown(desk, layout))

    def test_books_cut_off_at_any_row(self):
        for at, text in enumerate(DESKS):
            checked = Checked(self, text)
            stood = [checked.desk.standing()]
            for number in numbers(1000 + at, 200):
                if checked.do(drawn_deed(checked.plain, number)) == []:
                    stood.append(checked.desk.standing())
            rows = book_text(checked.desk).split("\n")
            self.assertEqual(len(rows) + 1, len(stood))
            for many, standing in enumerate(stood):
                self.assertEqual(done_again(checked.layout, "\n".join(rows[:many])).standing(), standing)

    def test_two_desks_by_turns(self):
        for at, text in enumerate(DESKS):
            layout = read_layout(text)
            plains, desks = [Plain(layout), Plain(layout)], [Desk(layout), Desk(layout)]
            for number in numbers(2000 + at, 500):
                plain, desk = plains[number // 3 % 2], desks[number // 3 % 2]
                deed = drawn_deed(plain, number)
                expected = plain.why_not(deed)
                self.assertEqual(outcome(desk, deed), expected)
                if expected == []:
                    plain.do(deed)
                self.assertEqual([one.standing() for one in desks], [one.standing() for one in plains])

    def test_what_is_told_is_changed_all_the_while(self):
        for at, text in enumerate(DESKS):
            layout = read_layout(text)
            plain, desk = Plain(layout), Desk(layout)
            for number in numbers(3000 + at, 500):
                deed = drawn_deed(plain, number)
                expected = plain.why_not(deed)
                told = outcome(desk, deed)
                self.assertEqual(told, expected)
                if expected == []:
                    plain.do(deed)
                elif expected != NO_SUCH:
                    told.clear()
                lies, locks, places, waits = desk.standing()
                self.assertEqual((lies, locks, places, waits), plain.standing())
                for ends in places.values():
                    ends.append(("a", 0))
                for part in (lies, locks, places, waits):
                    part.clear()


class Everything(unittest.TestCase):
    """All that two trains can come to on small stations, whatever is tried."""

    def deeds(self, checked):
        plain = checked.plain
        for number in range(len(plain.routes)):
            yield from (("lay", number), ("back", number))
        yield ("tick", 30)
        for point in plain.lies:
            yield from (("throw", point, "n"), ("throw", point, "r"))
        for train in TRAINS[:2]:
            yield from (("head", train), ("tail", train), ("leave", train))
            for end in checked.ends:
                yield ("come", train, *end)

    def explore(self, text):
        """Try every deed in every way to stand that can be come to; how many these are."""
        first = Checked(self, text)
        first.ends = [(section, side) for section in first.layout.sections for side in (0, 1)
                      if not first.plain.linked((section, side))]
        seen, queue = {self.key(first)}, [first]
        for checked in queue:
            for deed in self.deeds(checked):
                if checked.plain.why_not(deed) != []:
                    checked.do(deed)
                    continue
                onward = self.copied(checked)
                onward.do(deed)
                key = self.key(onward)
                if key not in seen:
                    seen.add(key)
                    queue.append(onward)
        return len(seen)

    def copied(self, checked):
        other = copy.copy(checked)
        # The station stays as it is, so that there is no need to copy it.
        other.desk, other.plain = copy.deepcopy((checked.desk, checked.plain), {id(checked.layout): checked.layout})
        return other

    def key(self, checked):
        return repr((sorted(checked.plain.lies.items()), sorted(checked.plain.places.items()),
                     sorted(checked.plain.laid.items())))

    def test_a_turnoff(self):
        self.assertEqual(self.explore(TURNOFF), 232)

    def test_a_loop(self):
        self.assertEqual(self.explore(LOOP), 2148)


if __name__ == "__main__":
    unittest.main()
