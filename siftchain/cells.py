"""Cells, which keep one of two numbers, and chains of them."""

from siftchain.checks import LONGEST_ROW, check_index, check_number, check_row, is_number
from siftchain.errors import InvalidChain, InvalidText

MOST_DIGITS = 10
NEAR_START = "near:"
# The rules without a mark, in the order of their words.
PLAIN_RULES = ("first", "greater", "last", "less")


class Cell:
    """A cell that keeps the number that came first."""

    KIND = "first"

    def __call__(self, held, came):
        return held, came

    def __eq__(self, other):
        return isinstance(other, Cell) and self.label == other.label

    def __neg__(self):
        return Cell()

    @property
    def label(self):
        return self.KIND


class Last(Cell):
    """A cell that keeps the number that came last."""

    KIND = "last"

    def __call__(self, held, came):
        return came, held

    def __eq__(self, other):
        return isinstance(other, Cell) and self.label == other.label

    def __neg__(self):
        return Last()

    @property
    def label(self):
        return self.KIND


class Less(Cell):
    """A cell that keeps the smaller number."""

    KIND = "less"

    def __call__(self, held, came):
        if came < held:
            return came, held
        return held, came

    def __eq__(self, other):
        return isinstance(other, Cell) and self.label == other.label

    def __neg__(self):
        return Greater()

    @property
    def label(self):
        return self.KIND


class Greater(Cell):
    """A cell that keeps the greater number."""

    KIND = "greater"

    def __call__(self, held, came):
        if came > held:
            return came, held
        return held, came

    def __eq__(self, other):
        return isinstance(other, Cell) and self.label == other.label

    def __neg__(self):
        return Less()

    @property
    def label(self):
        return self.KIND


class Near(Cell):
    """A cell that keeps the number that is nearer to a mark."""

    KIND = "near"

    def __init__(self, mark):
        check_number(mark)
        self.mark = mark

    def __call__(self, held, came):
        # Of two equally near numbers the held one stays, because it came first.
        if abs(came - self.mark) < abs(held - self.mark):
            return came, held
        return held, came

    def __eq__(self, other):
        return isinstance(other, Cell) and self.label == other.label

    def __neg__(self):
        return Near(-self.mark)

    @property
    def label(self):
        return f"{self.KIND}:{self.mark}"


def near_of(word):
    """Return the cell that a label with a mark describes, or None if it describes none."""
    written = word.removeprefix(NEAR_START)
    digits = written.removeprefix("-")
    # Without isascii, isdigit would let in the digits of other scripts.
    if not digits.isascii() or not digits.isdigit() or len(digits) > MOST_DIGITS:
        return None
    mark = int(written)
    # Leading zeros and a minus sign before 0 are not what a label shows.
    if not is_number(mark) or str(mark) != written:
        return None
    return Near(mark)


def cell_of(word):
    """Return the cell that a label describes, or None if it describes none."""
    if word == Cell.KIND:
        return Cell()
    if word == Last.KIND:
        return Last()
    if word == Less.KIND:
        return Less()
    if word == Greater.KIND:
        return Greater()
    if word.startswith(NEAR_START):
        return near_of(word)
    return None


class Chain:
    """One to eight cells, one behind another."""

    MAX_CELLS = 8

    def __init__(self, *cells):
        if not cells:
            raise InvalidChain(0)
        for at, cell in enumerate(cells):
            if at == self.MAX_CELLS or not isinstance(cell, Cell):
                raise InvalidChain(at)
        self.cells = cells

    @classmethod
    def parse(cls, text):
        """Return the chain that a text of labels describes."""
        if not isinstance(text, str):
            raise InvalidText(0)
        cells = []
        for at, word in enumerate(text.split(" ")):
            cell = cell_of(word)
            if at == cls.MAX_CELLS or cell is None:
                raise InvalidText(at)
            cells.append(cell)
        return cls(*cells)

    @property
    def text(self):
        return " ".join([cell.label for cell in self.cells])

    @property
    def empty(self):
        return (None,) * len(self.cells)

    def step(self, held, came):
        """Let one number in; return what the cells hold then, and what comes out or None."""
        kept = []
        passed = came
        for cell, own in zip(self.cells, held):
            # Cells fill from the first one on: behind an empty cell all are empty,
            # and a cell that holds a number always gets one from the cell before it.
            if own is None:
                keeps, passed = passed, None
            else:
                keeps, passed = cell(own, passed)
            kept.append(keeps)
        return tuple(kept), passed

    def __call__(self, row):
        check_row(row, LONGEST_ROW)
        held = self.empty
        outs = []
        for number in row:
            held, out = self.step(held, number)
            outs.append(out)
        return outs, held

    def __len__(self):
        return len(self.cells)

    def __getitem__(self, index):
        check_index(index, len(self.cells))
        return self.cells[index]

    def __iter__(self):
        raise TypeError("a chain is not walked")

    def __rshift__(self, other):
        if not isinstance(other, Chain):
            raise InvalidChain(0)
        cells = self.cells + other.cells
        return Chain(*cells)

    def __rrshift__(self, other):
        # Python asks the right side only if the left one is no chain.
        raise InvalidChain(0)

    def __neg__(self):
        cells = [-cell for cell in self.cells]
        return Chain(*cells)

    def __eq__(self, other):
        return isinstance(other, Chain) and self.cells == other.cells
