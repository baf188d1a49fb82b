"""What the tests of a desk share: how a deed is refused, and that nothing changes by it."""

import copy
import unittest

from signalhouse.book import book_text
from signalhouse.desks import Desk
from signalhouse.errors import Barred, HouseError, NoSuch
from signalhouse.reading import read_layout


def desk_of(text):
    return Desk(read_layout(text))


def signals_of(text):
    return [row.split(" ")[1] for row in text.split("\n") if row.startswith("signal ")]


def done(text, *deeds):
    """A desk of a station on which these deeds were done, each told as a row of a book."""
    desk = desk_of(text)
    for deed in deeds:
        do(desk, deed)
    return desk


def do(desk, deed):
    """Do a deed that is told as a row of a book."""
    word, *rest = deed.split(" ")
    if word == "come":
        train, end = rest
        desk.come(train, end[:-2], int(end[-1]))
    elif word == "throw":
        desk.throw(*rest)
    elif word in ("lay", "back", "tick"):
        method = {"lay": desk.lay, "back": desk.take_back, "tick": desk.tick}[word]
        method(int(rest[0]))
    else:
        {"head": desk.head, "tail": desk.tail, "leave": desk.leave}[word](*rest)


def seen(desk, signals):
    """All that a desk tells."""
    return copy.deepcopy((desk.standing(), [desk.shows(signal) for signal in signals], book_text(desk)))


class DeskCase(unittest.TestCase):
    """A test case that knows how a desk refuses; station is the text of the desks that it makes."""

    station = ""

    def made(self, *deeds):
        return done(self.station, *deeds)

    def refused(self, desk, call, *told):
        """The error with which a call is refused, behind which nothing has changed."""
        signals = signals_of(self.station)
        before = seen(desk, signals)
        with self.assertRaises(HouseError) as caught:
            call(*told)
        self.assertIsInstance(caught.exception, ValueError)
        self.assertEqual(seen(desk, signals), before)
        return caught.exception

    def check_barred(self, desk, deed, *bars):
        """A deed, told as a row of a book, is barred by just these bars."""
        error = self.refused(desk, do, desk, deed)
        self.assertIs(type(error), Barred, deed)
        self.assertIs(type(error.bars), list)
        self.assertEqual(error.bars, list(bars), deed)

    def check_no_such(self, desk, call, *told):
        """A call is refused as what it names isn't there."""
        self.assertIs(type(self.refused(desk, call, *told)), NoSuch, told)

    def check_standing(self, desk, lies=None, locks=None, places=None, waits=None):
        """A desk stands just so; lies are those that aren't n."""
        told = desk.standing()
        self.assertIs(type(told), tuple)
        self.assertEqual([type(part) for part in told], [dict] * 4)
        all_lies = {row.split(" ")[1]: "n" for row in self.station.split("\n") if row.startswith("point ")}
        self.assertEqual(told, ({**all_lies, **(lies or {})}, locks or {}, places or {}, waits or {}))
