"""All errors that the package raises."""


class SiftError(ValueError):
    """The base class of all errors of the package."""


class InvalidNumber(SiftError):
    """A value is not an integer within its limits."""


class InvalidChain(SiftError):
    """A chain cannot be made of these cells; `index` is the place of the first wrong one."""

    def __init__(self, index):
        super().__init__(f"no chain: wrong or missing cell at {index}")
        self.index = index


class UnknownCell(SiftError):
    """A chain has no cell with this index."""


class InvalidRow(SiftError):
    """A row has an entry that is wrong, superfluous or missing at `index`."""

    def __init__(self, index):
        super().__init__(f"no row: wrong, superfluous or missing entry at {index}")
        self.index = index


class InvalidText(SiftError):
    """A text does not describe a chain; `word` is the number of the first wrong word."""

    def __init__(self, word):
        super().__init__(f"no text of a chain: wrong or superfluous word {word}")
        self.word = word


class TooMany(SiftError):
    """There are more values than the search accepts."""


class Contradiction(SiftError):
    """No rule would remain possible."""


class InvalidName(SiftError):
    """A snapshot cannot have this name."""


class UnknownName(SiftError):
    """There is no snapshot with this name."""


class InvalidOperation(SiftError):
    """An operation at `place` in a list is malformed or fails."""

    def __init__(self, place):
        super().__init__(f"wrong operation at {place}")
        self.place = place
