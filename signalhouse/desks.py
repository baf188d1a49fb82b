"""The desk: routes are laid and taken back, trains run, points are moved."""

from signalhouse.errors import Barred, NoSuch
from signalhouse.layouts import LIES, SIDES, links_by_end, other_end, signals_by_end
from signalhouse.ways import routes_of

FIRST_LIE = "n"
WAIT_TICKS = 30


class Desk:
    """The desk of a station.

    Each deed looks for all that could refuse it before it changes anything, so what is refused changes nothing.
    """

    def __init__(self, layout):
        self._routes = routes_of(layout)
        self._sections = list(layout.sections)
        self._links = links_by_end(layout)
        self._signal_at = signals_by_end(layout)
        self._end_of = dict(layout.signals)
        self._owners = dict(layout.points)
        self._lies = {point: FIRST_LIE for point in self._owners}
        # From locked sections to numbers of routes, and from these to the ticks that they wait yet, None for no wait.
        self._locks = {}
        self._waits = {}
        # From numbers of laid routes to the trains that have gone into them, and from trains to their places.
        self._gone_in = {}
        self._places = {}
        self._deeds = []

    def lay(self, number):
        """Lay a route: move its points and lock its sections."""
        route = self._route(number)
        self._refuse_for(self._bars_of_route(route))
        for point, lie in route.wants:
            self._lies[point] = lie
        for section in route.sections:
            self._locks[section] = number
        self._waits[number] = None
        self._deeds.append(("lay", number))

    def take_back(self, number):
        """Take a laid route back; it waits first where a train's head stands ahead of its signal."""
        if number not in self._waits:
            raise NoSuch(f"route {number} isn't laid")
        if number in self._gone_in:
            first = self._locked_by(number)[0]
            raise Barred([("train", first, self._gone_in[number])])
        if not self._is_awaited(number):
            self._unlay(number)
        elif self._waits[number] is None:
            self._waits[number] = WAIT_TICKS
        self._deeds.append(("back", number))

    def tick(self, many):
        """Let so many ticks go by; routes that have waited long enough aren't laid any more."""
        if many < 1:
            raise NoSuch("there are no ticks fewer than 1")
        waiting = [(number, left) for number, left in self._waits.items() if left is not None]
        for number, left in waiting:
            if left > many:
                self._waits[number] = left - many
            else:
                self._unlay(number)
        self._deeds.append(("tick", many))

    def throw(self, point, lie):
        """Move a point to a lie by hand."""
        if point not in self._lies or lie not in LIES:
            raise NoSuch(f"no point {point} lies {lie}")
        if self._lies[point] != lie:
            self._refuse_for(self._bars_of_point(point))
            self._lies[point] = lie
        self._deeds.append(("throw", point, lie))

    def head(self, train):
        """Let a train's head go into the next section."""
        places = self._places_of(train)
        end = other_end(places[-1])
        beyond = self._end_beyond(end)
        if end in self._signal_at:
            signal = self._signal_at[end]
            number = self._shown_by(signal)
            if number is None:
                raise Barred([("stop", end[0], signal)])
            self._gone_in[number] = train
        elif not self._is_locked_for(train, beyond[0]):
            raise Barred([("stop", end[0], train)])
        places.append(beyond)
        self._deeds.append(("head", train))

    def tail(self, train):
        """Let a train's tail leave its first section."""
        places = self._places_of(train)
        if len(places) == 1:
            raise NoSuch(f"the tail of {train} is in its last section")
        section, _ = places.pop(0)
        self._let_go(section)
        if len(places) == 1:
            self._let_go_if_last(places[0][0])
        self._deeds.append(("tail", train))

    def leave(self, train):
        """Let a train leave the station, by an end without links."""
        places = self._places_of(train)
        if len(places) > 1 or other_end(places[0]) in self._links:
            raise NoSuch(f"{train} has no end to leave by")
        del self._places[train]
        self._deeds.append(("leave", train))

    def come(self, train, section, side):
        """Let a train come into the station, by an end without links."""
        end = (section, side)
        if section not in self._sections or side not in SIDES or end in self._links:
            raise NoSuch(f"no train comes by {section}.{side}")
        if train in self._places:
            raise NoSuch(f"{train} is there already")
        self._refuse_for(self._bars_of_section(section))
        self._places[train] = [end]
        self._deeds.append(("come", train, end))

    def shows(self, signal):
        """Whether a signal shows that one may go."""
        if signal not in self._end_of:
            raise NoSuch(f"there is no signal {signal}")
        return self._shown_by(signal) is not None

    def standing(self):
        """Four dicts: lies of points, routes of locked sections, places of trains, ticks that laid routes wait."""
        places = {train: list(ends) for train, ends in self._places.items()}
        return (dict(self._lies), dict(self._locks), places, dict(self._waits))

    def deeds(self):
        """All deeds that weren't refused, in order, as tuples of a book's word and what it was done with."""
        return list(self._deeds)

    def _route(self, number):
        """The route with a number."""
        if not 0 <= number < len(self._routes):
            raise NoSuch(f"there is no route {number}")
        return self._routes[number]

    def _places_of(self, train):
        """The places of a train, the list itself."""
        if train not in self._places:
            raise NoSuch(f"there is no train {train}")
        return self._places[train]

    def _end_beyond(self, end):
        """The end to which the open link of an end leads."""
        for beyond, wants in self._links.get(end, []):
            if all(self._lies[point] == lie for point, lie in wants):
                return beyond
        raise NoSuch(f"no link is open at {end[0]}.{end[1]}")

    def _refuse_for(self, bars):
        """Refuse a deed if anything bars it."""
        if bars:
            raise Barred(bars)

    def _bars_of_section(self, section):
        """What bars a section."""
        bars = [("train", section, train) for train in self._places if self._stands_in(train, section)]
        if section in self._locks:
            bars.append(("route", section, self._locks[section]))
        return bars

    def _bars_of_point(self, point):
        """What bars a point's moving."""
        bars = self._bars_of_section(self._owners[point])
        wanting = [number for number in self._waits if self._routes[number].hangs_on(point)]
        empty = [number for number in wanting if number not in self._gone_in]
        if empty:
            bars.append(("point", point, min(empty)))
        return bars

    def _bars_of_route(self, route):
        """What bars a route from being laid."""
        bars = []
        for section in route.sections:
            bars += self._bars_of_section(section)
        for point, lie in route.wants:
            if self._lies[point] != lie:
                bars += [bar for bar in self._bars_of_point(point) if bar not in bars]
        return bars

    def _shown_by(self, signal):
        """The number of the route into which a signal lets a train go, or None."""
        # There is one at most: two routes of one signal share their first section, or want one point unlike.
        for number, left in self._waits.items():
            if left is None and number not in self._gone_in and self._routes[number].signal == signal:
                return number
        return None

    def _stands_in(self, train, section):
        """Whether a train stands in a section."""
        return any(section == place for place, _ in self._places[train])

    def _is_locked_for(self, train, section):
        """Whether a section is locked by a route into which this train has gone."""
        return section in self._locks and self._gone_in.get(self._locks[section]) == train

    def _is_awaited(self, number):
        """Whether a train's head stands ahead of the signal of a route."""
        end = self._end_of[self._routes[number].signal]
        heads = [places[-1] for places in self._places.values()]
        return other_end(end) in heads

    def _locked_by(self, number):
        """The sections that a route locks still, in its order."""
        return [section for section in self._routes[number].sections if self._locks.get(section) == number]

    def _let_go(self, section):
        """Take away the lock of a section, if there is one; the route isn't laid any more if it was the last."""
        number = self._locks.pop(section, None)
        if number is not None and not self._locked_by(number):
            self._unlay(number)

    def _let_go_if_last(self, section):
        """Take away the lock of a section if its route locks nothing else."""
        if section in self._locks and self._locked_by(self._locks[section]) == [section]:
            self._let_go(section)

    def _unlay(self, number):
        """Make a laid route one that isn't laid any more."""
        for section in self._locked_by(number):
            del self._locks[section]
        del self._waits[number]
        if number in self._gone_in:
            del self._gone_in[number]
