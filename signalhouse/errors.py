"""The refusals of the program."""


class HouseError(ValueError):
    """Any refusal."""


class BadLayout(HouseError):
    """A text that tells no station; row is its first row, from 0, that isn't so."""

    def __init__(self, row):
        super().__init__(f"row {row} is no row of a station here")
        self.row = row


class NoSuch(HouseError):
    """Something that was named isn't there."""


class Barred(HouseError):
    """A deed that something bars; bars is the list of all that bars it."""

    def __init__(self, bars):
        super().__init__(f"barred by {len(bars)}")
        # A list of its own, so that changing it doesn't reach whoever refused.
        self.bars = list(bars)


class TooMany(HouseError):
    """More than the program takes on."""


class BadBook(HouseError):
    """A text that is no book of a desk; row is its first row, from 0, that isn't so."""

    def __init__(self, row):
        super().__init__(f"row {row} is no row of a book here")
        self.row = row
