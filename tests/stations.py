"""Stations that several tests use, and what reading says of a text."""

from signalhouse.errors import BadLayout
from signalhouse.reading import read_layout

FORK = (
    "section main\n"
    "section left\n"
    "section right\n"
    "section yard\n"
    "point p1 in main\n"
    "point q in right\n"
    "link main.1 left.0 when p1 n\n"
    "link right.0 main.1 when p1 r\n"
    "link right.1 yard.1 when q n\n"
    "link yard.0 right.1 when q r\n"
    "signal in1 at main.1\n"
    "signal out at yard.0\n"
    "signal back at left.0"
)

# Every sort out of its alphabetic order, one link with three wants, and names that are also words of the rows.
WORDS = (
    "section link\n"
    "section and\n"
    "section 0\n"
    "point when in link\n"
    "point n in and\n"
    "point 1 in link\n"
    "link link.1 and.0 when 1 n and n r and when n\n"
    "link and.0 link.1 when 1 n and n r and when r\n"
    "link link.0 0.0\n"
    "signal point at 0.1\n"
    "signal at at link.0\n"
    "signal in at link.1"
)

SHORTEST = "section a"

GOOD = (FORK, WORDS, SHORTEST)


def refused_row(text):
    """The row with which a text is refused, None where it is read."""
    try:
        read_layout(text)
    except BadLayout as bad:
        return bad.row
    return None


def parts(layout):
    return (layout.sections, layout.points, layout.links, layout.signals)


def joined(*rows):
    return "\n".join(rows)


def names(letter, many):
    """Names that rise with their places: a10, a11, .."""
    return [f"{letter}{10 + at}" for at in range(many)]

# Plain links, a signal on the way, and one that looks the other way.
LINE = (
    "section a\n"
    "section b\n"
    "section c\n"
    "section d\n"
    "link a.1 b.0\n"
    "link b.1 c.0\n"
    "link d.0 c.1\n"
    "signal s at a.1\n"
    "signal t at c.1\n"
    "signal u at d.0"
)

# Two platforms between two points, with signals both ways; w and e belong to the sections outside.
LOOP = (
    "section west\n"
    "section one\n"
    "section two\n"
    "section east\n"
    "point w in west\n"
    "point e in east\n"
    "link west.1 one.0 when w n\n"
    "link west.1 two.0 when w r\n"
    "link one.1 east.0 when e n\n"
    "link two.1 east.0 when e r\n"
    "signal ws at west.1\n"
    "signal o1 at one.1\n"
    "signal t1 at two.1\n"
    "signal es at east.0\n"
    "signal o0 at one.0\n"
    "signal t0 at two.0"
)

# One way through three routes on end, a point that leads off it and one that leads onto it.
LONG = (
    "section a\nsection b\nsection c\nsection d\nsection e\nsection f\nsection g\nsection h\nsection x\nsection y\n"
    "point k in b\n"
    "point m in e\n"
    "link a.1 b.0\n"
    "link b.1 c.0 when k n\n"
    "link b.1 x.0 when k r\n"
    "link c.1 d.0\n"
    "link d.1 e.0 when m n\n"
    "link y.1 e.0 when m r\n"
    "link e.1 f.0\n"
    "link f.1 g.0\n"
    "link g.1 h.0\n"
    "signal s at a.1\n"
    "signal t at c.1\n"
    "signal u at f.1\n"
    "signal v at y.1"
)

# Two points make three ways from a; c and d come together again behind a point of their own.
THREE_WAYS = (
    "section a\n"
    "section b\n"
    "section c\n"
    "section d\n"
    "section z\n"
    "point q in a\n"
    "point p in a\n"
    "point m in z\n"
    "link a.1 d.0 when p r and q r\n"
    "link a.1 b.0 when p n\n"
    "link c.0 a.1 when p r and q n\n"
    "link z.0 c.1 when m n\n"
    "link d.1 z.0 when m r\n"
    "signal s at a.1\n"
    "signal back at z.0\n"
    "signal off at b.0"
)

# A long way that hangs on a point of its signal's section, which is free again while the way is run through.
TURNOFF = (
    "section a\n"
    "section b\n"
    "section c\n"
    "section d\n"
    "section e\n"
    "point p in a\n"
    "link a.1 b.0 when p n\n"
    "link a.1 e.0 when p r\n"
    "link b.1 c.0\n"
    "link c.1 d.0\n"
    "signal s at a.1"
)

DESKS = (LINE, LOOP, LONG, THREE_WAYS, FORK, TURNOFF)
