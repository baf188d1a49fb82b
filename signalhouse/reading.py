"""Stations as texts: read, and written again."""

from signalhouse.errors import BadLayout
from signalhouse.layouts import Layout

SORTS = ("section", "point", "link", "signal")
SIDE_OF = {".0": 0, ".1": 1}


def read_layout(text):
    """The station that a text tells; BadLayout names the first row that can't stand where it does."""
    layout = Layout()
    reached = 0
    for at, row in enumerate(text.split("\n")):
        words = row.split(" ")
        # A sort that was gone past doesn't come again.
        if words[0] not in SORTS[reached:] or not _take_row(layout, words):
            raise BadLayout(at)
        reached = SORTS.index(words[0])
    return layout


def layout_text(layout):
    """The text of a station, each sort in the order in which it was told."""
    rows = [f"section {name}" for name in layout.sections]
    rows += [f"point {name} in {section}" for name, section in layout.points]
    rows += [_link_row(link) for link in layout.links]
    rows += [f"signal {name} at {end_text(end)}" for name, end in layout.signals]
    return "\n".join(rows)


def _take_row(layout, words):
    """Add to a station what the words of a row tell; False where they tell nothing that may be added."""
    match words:
        case ["section", name]:
            return layout.add_section(name)
        case ["point", name, "in", section]:
            return layout.add_point(name, section)
        case ["link", one, other, *rest]:
            wants = _read_wants(rest)
            return wants is not None and layout.add_link(read_end(one), read_end(other), wants)
        case ["signal", name, "at", end]:
            return layout.add_signal(name, read_end(end))
        case _:
            return False


def read_end(word):
    """The end that a word tells; its side is None where the word tells no side."""
    return (word[:-2], SIDE_OF.get(word[-2:]))


def _read_wants(words):
    """The wants that the words behind a link's ends tell, or None where they aren't written so."""
    wants = []
    for at in range(0, len(words), 3):
        lead = "and" if at > 0 else "when"
        if words[at] != lead or at + 3 > len(words):
            return None
        wants.append((words[at + 1], words[at + 2]))
    return wants


def end_text(end):
    """The word that tells an end."""
    section, side = end
    return f"{section}.{side}"


def _link_row(link):
    one, other, wants = link
    row = f"link {end_text(one)} {end_text(other)}"
    lead = "when"
    for point, lie in wants:
        row += f" {lead} {point} {lie}"
        lead = "and"
    return row
