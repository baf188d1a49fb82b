"""Books of desks as texts: written, and done again."""

from signalhouse.desks import Desk
from signalhouse.errors import BadBook, HouseError, NoSuch
from signalhouse.reading import end_text, read_end

FIGURES = "0123456789"
LETTERS = "abcdefghijklmnopqrstuvwxyz"
MOST_SIGNS = 6


def book_text(desk):
    """The text of a desk's book, a row for each deed that wasn't refused."""
    return "\n".join([_row(deed) for deed in desk.deeds()])


def done_again(layout, text):
    """A desk of a station on which all deeds of a book were done; BadBook names the first row that can't be."""
    desk = Desk(layout)
    # A text without a sign is a book of no deeds, not one of an empty row.
    rows = text.split("\n") if text else []
    for at, row in enumerate(rows):
        try:
            _do(desk, row.split(" "))
        except HouseError as refusal:
            raise BadBook(at) from refusal
    return desk


def _row(deed):
    """The row of a deed."""
    match deed:
        case ("come", train, end):
            return f"come {train} {end_text(end)}"
        case _:
            return " ".join([str(word) for word in deed])


def _do(desk, words):
    """Do on a desk what the words of a row tell; a HouseError where they tell no deed or it is refused."""
    match words:
        case ["lay", number]:
            desk.lay(_read_number(number))
        case ["back", number]:
            desk.take_back(_read_number(number))
        case ["tick", number]:
            desk.tick(_read_number(number))
        case ["throw", point, lie]:
            desk.throw(point, lie)
        case ["come", train, end]:
            section, side = read_end(end)
            desk.come(_read_train(train), section, side)
        case ["head", train]:
            desk.head(train)
        case ["tail", train]:
            desk.tail(train)
        case ["leave", train]:
            desk.leave(train)
        case _:
            raise NoSuch("no deed is written so")


def _read_number(word):
    """The number that a word tells, in one to six figures without a needless nought."""
    if not _is_made_of(word, FIGURES) or (word[0] == "0" and word != "0"):
        raise NoSuch("no number is written so")
    return int(word)


def _read_train(word):
    """The name of a train that a word tells; only here, as a train that is there has come by a row of the book."""
    if not _is_made_of(word, LETTERS):
        raise NoSuch("no train's name is written so")
    return word


def _is_made_of(word, signs):
    """Whether a word has one to six signs, all of these."""
    return 1 <= len(word) <= MOST_SIGNS and all(sign in signs for sign in word)
