"""Stations that several tests use, and what reading says of a text."""

from signalhouse.errors import BadLayout
from signalhouse.reading import read_layout

FORK = (
    "section main\n"
    "section left\n"
    "section right\n"
    "section yard\n"
    "point p1 in main\n"
    "point q in right\n"
    "link main.1 left.0 when p1 n\n"
    "link right.0 main.1 when p1 r\n"
    "link right.1 yard.1 when q n\n"
    "link yard.0 right.1 when q r\n"
    "signal in1 at main.1\n"
    "signal out at yard.0\n"
    "signal back at left.0"
)

# Every sort out of its alphabetic order, one link with three wants, and names that are also words of the rows.
WORDS = (
    "section link\n"
    "section and\n"
    "section 0\n"
    "point when in link\n"
    "point n in and\n"
    "point 1 in link\n"
    "link link.1 and.0 when 1 n and n r and when n\n"
    "link and.0 link.1 when 1 n and n r and when r\n"
    "link link.0 0.0\n"
    "signal point at 0.1\n"
    "signal at at link.0\n"
    "signal in at link.1"
)

SHORTEST = "section a"

GOOD = (FORK, WORDS, SHORTEST)


def refused_row(text):
    """The row with which a text is refused, None where it is read."""
    try:
        read_layout(text)
    except BadLayout as bad:
        return bad.row
    return None


def parts(layout):
    return (layout.sections, layout.points, layout.links, layout.signals)


def joined(*rows):
    return "\n".join(rows)


def names(letter, many):
    """Names that rise with their places: a10, a11, .."""
    return [f"{letter}{10 + at}" for at in range(many)]
