"""The routes of a station."""

from signalhouse.errors import TooMany
from signalhouse.layouts import links_by_end, other_end, signals_by_end

MOST_ROUTES = 60


class Route:
    """A way from a signal on; target is None where no signal ends it, wants are ((point, lie), ..) by rising points."""

    def __init__(self, signal, target, sections, wants):
        # Tuples all through, so that nobody who was told a route can change it.
        self.signal = signal
        self.target = target
        self.sections = tuple(sections)
        self.wants = tuple(wants)

    def told(self):
        """The route as (signal, target or None, sections, wants)."""
        return (self.signal, self.target, self.sections, self.wants)

    def hangs_on(self, point):
        """Whether the route wants a point to lie in some way."""
        return any(point == name for name, _ in self.wants)


def routes_of(layout):
    """All routes of a station, in the order of their numbers; TooMany where there are more than it takes on."""
    links = links_by_end(layout)
    signals = signals_by_end(layout)
    routes = []
    for signal, end in layout.signals:
        for target, sections, wants in _ways_on(links, signals, end, (end[0],), {}):
            routes.append(Route(signal, target, sections, wants))
        if len(routes) > MOST_ROUTES:
            raise TooMany(f"a station has at most {MOST_ROUTES} routes")
    return routes


def _ways_on(links, signals, end, passed, wants):
    """All (target, sections, wants) of routes that have passed these sections and come to an end of the last one.

    The first one passed is the signal's own, so that no route comes back into it; it belongs to no route.
    """
    if len(passed) > 1 and (end in signals or end not in links):
        return [(signals.get(end), passed[1:], sorted(wants.items()))]
    ways = []
    for beyond, more in links.get(end, []):
        joined = _join_wants(wants, more)
        if joined is not None and beyond[0] not in passed:
            ways += _ways_on(links, signals, other_end(beyond), passed + (beyond[0],), joined)
    return ways


def _join_wants(wants, more):
    """From points to lies, what both want, or None where that doesn't go together."""
    joined = dict(wants)
    for point, lie in more:
        if joined.setdefault(point, lie) != lie:
            return None
    return joined
