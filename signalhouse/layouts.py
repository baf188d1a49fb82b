"""What a station is: its sections, points, links and signals, and which may stand beside one another.

An end is (section, 0) or (section, 1). The wants of a link are ((point, lie), ..) by rising points.
"""

MOST_SECTIONS = 30
MOST_POINTS = 12
MOST_LINKS = 60
MOST_SIGNALS = 16
LONGEST_NAME = 6
NAME_SIGNS = "abcdefghijklmnopqrstuvwxyz0123456789"
SIDES = (0, 1)
LIES = ("n", "r")


def is_name(text):
    """Whether a text may name a section, a point or a signal."""
    return 1 <= len(text) <= LONGEST_NAME and all(sign in NAME_SIGNS for sign in text)


def share_end(link, other):
    """Whether two links have an end in common."""
    return link[0] in other[:2] or link[1] in other[:2]


def told_apart(link, other):
    """Whether two links hang on unlike lies of one point, so that they are never open at once."""
    wants = link[2]
    return any(point == mine and lie != my_lie for point, lie in other[2] for mine, my_lie in wants)


def other_end(end):
    """The other end of the same section."""
    section, side = end
    return (section, 1 - side)


def links_by_end(layout):
    """From each end that has links to a list of (the end beyond, wants), as the links are told."""
    links = {}
    for one, other, wants in layout.links:
        links.setdefault(one, []).append((other, wants))
        links.setdefault(other, []).append((one, wants))
    return links


def signals_by_end(layout):
    """From each end at which a signal stands to the signal."""
    return {end: signal for signal, end in layout.signals}


class Layout:
    """A station, which grows part by part.

    Each method that adds a part gives True, or False where the part may not stand here; then nothing is changed.
    The parts are kept in the order in which they were told: sections as names, points as (point, section),
    links as (end, end, wants), signals as (signal, end).
    """

    def __init__(self):
        # Tuples all through, so that nobody who was given a part can change the station by it.
        self.sections = ()
        self.points = ()
        self.links = ()
        self.signals = ()

    def add_section(self, name):
        """Add a section, if it may stand here."""
        if len(self.sections) >= MOST_SECTIONS or not self._is_free(name):
            return False
        self.sections = self.sections + (name,)
        return True

    def add_point(self, name, section):
        """Add a point of a section, if it may stand here."""
        if len(self.points) >= MOST_POINTS or not self._is_free(name) or section not in self.sections:
            return False
        self.points = self.points + ((name, section),)
        return True

    def add_link(self, one, other, wants):
        """Add a link between two ends, open where all its wants are met, if it may stand here."""
        if len(self.links) >= MOST_LINKS or not self._may_join(one, other):
            return False
        link = (one, other, tuple(wants))
        if not self._may_want(link) or not self._is_alone(link):
            return False
        self.links = self.links + (link,)
        return True

    def add_signal(self, name, end):
        """Add a signal at an end, if it may stand here."""
        if len(self.signals) >= MOST_SIGNALS or not self._is_free(name):
            return False
        if not self._is_end(end) or any(end == taken for _, taken in self.signals):
            return False
        self.signals = self.signals + ((name, end),)
        return True

    def _is_free(self, name):
        """Whether a text is a name that nothing here has yet."""
        taken = [*self.sections, *[point for point, _ in self.points], *[signal for signal, _ in self.signals]]
        return is_name(name) and name not in taken

    def _is_end(self, end):
        """Whether an end is one of a section of this station."""
        return end[0] in self.sections and end[1] in SIDES

    def _may_join(self, one, other):
        """Whether a link may go from one end to the other."""
        return self._is_end(one) and self._is_end(other) and one[0] != other[0]

    def _may_want(self, link):
        """Whether a link may hang on its points: each once, by rising names, of one of its two sections."""
        one, other, wants = link
        owners = dict(self.points)
        names = [point for point, _ in wants]
        if names != sorted(set(names)):
            return False
        return all(owners.get(point) in (one[0], other[0]) and lie in LIES for point, lie in wants)

    def _is_alone(self, link):
        """Whether a link is never open together with another one of its ends."""
        return all(told_apart(link, other) for other in self.links if share_end(link, other))
