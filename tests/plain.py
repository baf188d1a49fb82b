"""A desk said once more, as plainly as can be, to hold the program's own against it.

A deed is a tuple: ("lay", 3), ("back", 3), ("tick", 30), ("throw", "p", "r"), ("come", "t", "a", 0), ("head", "t"),
("tail", "t"), ("leave", "t").
"""

from signalhouse.ways import routes_of

NO_SUCH = "no such"


class Plain:
    def __init__(self, layout):
        self.layout = layout
        self.routes = [route.told() for route in routes_of(layout)]
        self.lies = {point: "n" for point, _ in layout.points}
        self.places = {}
        # Of each laid route: the sections that it locks still, the train in it or None, its ticks or None.
        self.laid = {}

    def standing(self):
        locks = {section: number for number, (sections, _, _) in self.laid.items() for section in sections}
        waits = {number: ticks for number, (_, _, ticks) in self.laid.items()}
        return (self.lies, locks, self.places, waits)

    def shown(self):
        """The signals that show that one may go."""
        return {self.routes[number][0] for number, (_, train, ticks) in self.laid.items() if train is None is ticks}

    def linked(self, end):
        return any(end in link[:2] for link in self.layout.links)

    def beyond(self, end):
        """The end beyond the open link of an end, or None."""
        for one, other, wants in self.layout.links:
            if end in (one, other) and all(self.lies[point] == lie for point, lie in wants):
                return other if end == one else one
        return None

    def way_out(self, train):
        section, side = self.places[train][-1]
        return (section, 1 - side)

    def section_bars(self, section):
        bars = [("train", section, train) for train, places in self.places.items() if section in dict(places)]
        return bars + [("route", section, number) for number in self.laid if section in self.laid[number][0]]

    def point_bars(self, point):
        wanting = [number for number, (_, train, _) in self.laid.items()
                   if train is None and point in dict(self.routes[number][3])]
        bars = self.section_bars(dict(self.layout.points)[point])
        return bars + [("point", point, number) for number in sorted(wanting)[:1]]

    def route_bars(self, number):
        _, _, sections, wants = self.routes[number]
        bars = [bar for section in sections for bar in self.section_bars(section)]
        bars += [bar for point, lie in wants if self.lies[point] != lie for bar in self.point_bars(point)]
        return list(dict.fromkeys(bars))

    def head_bars(self, train):
        end = self.way_out(train)
        for signal, place in self.layout.signals:
            if place == end:
                return [] if signal in self.shown() else [("stop", end[0], signal)]
        for sections, runner, _ in self.laid.values():
            if runner == train and self.beyond(end)[0] in sections:
                return []
        return [("stop", end[0], train)]

    def why_not(self, deed):
        """NO_SUCH, or the list of what bars a deed, empty where nothing does."""
        word, what, *more = deed
        if word == "tick":
            return []
        if word == "lay":
            return self.route_bars(what) if what in range(len(self.routes)) else NO_SUCH
        if word == "back":
            if what not in self.laid:
                return NO_SUCH
            sections, train, _ = self.laid[what]
            return [] if train is None else [("train", sections[0], train)]
        if word == "throw":
            if what not in self.lies:
                return NO_SUCH
            return [] if self.lies[what] == more[0] else self.point_bars(what)
        if word == "come":
            end = tuple(more)
            if more[0] not in self.layout.sections or self.linked(end) or what in self.places:
                return NO_SUCH
            return self.section_bars(more[0])
        return self.why_not_run(word, what)

    def why_not_run(self, word, train):
        if train not in self.places:
            return NO_SUCH
        alone = len(self.places[train]) == 1
        if word == "tail":
            return NO_SUCH if alone else []
        if word == "leave":
            return [] if alone and not self.linked(self.way_out(train)) else NO_SUCH
        return NO_SUCH if self.beyond(self.way_out(train)) is None else self.head_bars(train)

    def do(self, deed):
        """Do a deed that nothing bars."""
        word, what, *more = deed
        if word == "lay":
            _, _, sections, wants = self.routes[what]
            self.lies.update(wants)
            self.laid[what] = (list(sections), None, None)
        elif word == "back":
            self.do_back(what)
        elif word == "tick":
            waiting = {number: ticks for number, (_, _, ticks) in self.laid.items() if ticks is not None}
            for number, ticks in waiting.items():
                self.laid[number] = (self.laid[number][0], None, ticks - what)
                if ticks <= what:
                    del self.laid[number]
        elif word == "throw":
            self.lies[what] = more[0]
        elif word == "come":
            self.places[what] = [tuple(more)]
        elif word == "head":
            self.do_head(what)
        elif word == "tail":
            self.do_tail(what)
        else:
            del self.places[what]

    def do_back(self, number):
        end = dict(self.layout.signals)[self.routes[number][0]]
        sections, _, ticks = self.laid.pop(number)
        if any(self.way_out(train) == end for train in self.places):
            self.laid[number] = (sections, None, 30 if ticks is None else ticks)

    def do_head(self, train):
        into = self.beyond(self.way_out(train))
        for number, (sections, runner, ticks) in list(self.laid.items()):
            if runner is None and into[0] in sections:
                self.laid[number] = (sections, train, ticks)
        self.places[train].append(into)

    def do_tail(self, train):
        section, _ = self.places[train].pop(0)
        alone = [place for place, _ in self.places[train]] if len(self.places[train]) == 1 else None
        for number, (sections, runner, _) in list(self.laid.items()):
            if section in sections:
                sections.remove(section)
            if not sections or sections == alone:
                del self.laid[number]
