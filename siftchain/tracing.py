"""What can have come into a chain, and which rows and chains let out what is wanted."""

from siftchain.cells import PLAIN_RULES, Chain, Near, cell_of
from siftchain.checks import LONGEST_ROW, check_row, is_number
from siftchain.errors import InvalidRow, TooMany

MOST_TRACED = 30
MOST_TOLD = 4
MOST_WANTED = 5


def is_out(value):
    """Tell whether a value can be what comes out in a tick: a number, or None."""
    return value is None or is_number(value)


def check_held(held, many):
    """Raise InvalidRow unless so many cells can hold this, filled from the first one on."""
    if not isinstance(held, tuple):
        raise InvalidRow(0)
    filled = True
    for at, number in enumerate(held):
        if at == many or not is_out(number) or (number is not None and not filled):
            raise InvalidRow(at)
        filled = number is not None
    if len(held) < many:
        raise InvalidRow(len(held))


def check_outs(outs):
    """Raise InvalidRow unless this is a list of what comes out, and not too long."""
    if not isinstance(outs, list):
        raise InvalidRow(0)
    for at, out in enumerate(outs):
        if at == LONGEST_ROW or not is_out(out):
            raise InvalidRow(at)


def cell_before(cell, kept, passed):
    """Return all tuples of what a cell can have held and of what can have come to it."""
    pairs = [(kept, passed)]
    if kept != passed:
        pairs.append((passed, kept))
    return [(own, came) for own, came in pairs if cell(own, came) == (kept, passed)]


def ways_back(chain, held, out, fits):
    """Return all tuples of a number that can have come in and of what the cells held before.

    Of these, only those are returned for which `fits` holds for each cell that held
    a number: it is asked with the cell, its number and the tuple of what is behind it.
    """
    filled = len(held) - held.count(None)
    if filled == 0 or (out is not None and filled < len(held)):
        return []
    ways = [(out, ())]
    if out is None:
        # The last one of the filled cells was empty, and kept what came to it.
        filled -= 1
        ways = [(held[filled], (None,) * (len(held) - filled))]
    for at in reversed(range(filled)):
        ways = [
            (came, (own,) + behind)
            for passed, behind in ways
            for own, came in cell_before(chain[at], held[at], passed)
            if fits(chain[at], own, behind)
        ]
    return ways


def earlier(chain, held, out):
    """Return the ascending list of what can have come in and of what the cells held before."""
    check_held(held, len(chain))
    return sorted(ways_back(chain, held, out, lambda cell, own, behind: True))


def outlasts(cell, own, others):
    """Tell whether a cell can hold a number after it passed on all others."""
    for other in others:
        if other is not None and own != cell(own, other)[0] and own != cell(other, own)[0]:
            return False
    return True


def ranks(values):
    """Return the place of each value in their ascending order, the same one for equal values."""
    places = {value: place for place, value in enumerate(sorted(set(values)))}
    return tuple([places[value] for value in values])


class Tracer:
    """Counts the rows that can lead a chain to what it holds, and remembers what it counted."""

    def __init__(self, chain):
        self.chain = chain
        self.marks = sorted(set([cell.mark for cell in chain.cells if isinstance(cell, Near)]))
        self.known = {}

    def pattern(self, numbers):
        """Return all that the cells can see of the numbers: how they compare."""
        distances = [ranks([abs(number - mark) for number in numbers]) for mark in self.marks]
        return tuple([ranks(numbers)] + distances)

    def rows_to(self, held, outs):
        """Return the number of rows that lead to this, and the first one or None."""
        if not outs:
            return 1, []
        numbers = [number for number in list(held) + outs if number is not None]
        order = sorted(set(numbers))
        # Numbers that compare alike have like rows, so a row is kept as places in their order:
        # without this, there can be millions of holdings to go through.
        key = self.pattern(numbers)
        if key not in self.known:
            many, row = self.rows_by_last(held, outs)
            self.known[key] = (many, None if row is None else [order.index(number) for number in row])
        many, places = self.known[key]
        return many, None if places is None else [order[place] for place in places]

    def rows_by_last(self, held, outs):
        """Return the same, from all that can have been so before the last tick."""
        gone = [out for out in outs[:-1] if out is not None]

        def fits(cell, own, behind):
            # Otherwise the cells cannot come to hold this, and the way would be in vain.
            return outlasts(cell, own, behind) and outlasts(cell, own, gone)

        total = 0
        first = None
        for number, before in ways_back(self.chain, held, outs[-1], fits):
            many, row = self.rows_to(before, outs[:-1])
            total += many
            if row is not None and (first is None or row + [number] < first):
                first = row + [number]
        return total, first


def rows_behind(chain, held, outs):
    """Return how many rows can have come into the empty chain, and the first one or None."""
    check_held(held, len(chain))
    check_outs(outs)
    if len(outs) > MOST_TRACED:
        raise TooMany("more than 30 ticks")
    filled = min(len(chain), len(outs))
    # Each of the first ticks fills a cell; then a number comes out in every tick.
    if held.count(None) != len(chain) - filled or outs.count(None) != filled or None in outs[filled:]:
        return 0, None
    tracer = Tracer(chain)
    return tracer.rows_to(held, outs)


def check_told(chain, other, numbers):
    """Raise TooMany or InvalidRow unless two chains can be told apart by the numbers."""
    if len(chain) > MOST_TOLD or len(other) > MOST_TOLD:
        raise TooMany("more than four cells")
    check_row(numbers, LONGEST_ROW)
    if len(numbers) > MOST_TOLD:
        raise TooMany("more than four numbers")


def telling_row(chain, other, numbers):
    """Return the first one of the shortest rows that tell two chains apart, or None."""
    check_told(chain, other, numbers)
    seen = {(chain.empty, other.empty): True}
    rows = [([], chain.empty, other.empty)]
    # The rows of each length stand in list order, so the first one that tells is wanted.
    while rows:
        longer = []
        for row, held, other_held in rows:
            for number in sorted(set(numbers)):
                kept, out = chain.step(held, number)
                other_kept, other_out = other.step(other_held, number)
                if out != other_out:
                    return row + [number]
                if (kept, other_kept) not in seen:
                    seen[(kept, other_kept)] = True
                    longer.append((row + [number], kept, other_kept))
        rows = longer
    return None


def cells_for(numbers, wanted, many):
    """Return the first list of so many cells that pass on what is wanted, or None."""
    if many == 0:
        return [] if numbers == wanted else None
    for word in PLAIN_RULES:
        cell = cell_of(word)
        chain = Chain(cell)
        outs, held = chain(numbers)
        behind = cells_for(outs[1:], wanted, many - 1)
        if behind is not None:
            return [cell] + behind
    return None


def chain_for(row, outs):
    """Return the first chain that lets out a list for a row, or None."""
    check_row(row, LONGEST_ROW)
    if not isinstance(outs, list):
        raise InvalidRow(0)
    many = outs.count(None)
    if many > MOST_WANTED:
        raise TooMany("more than five cells")
    wanted = outs[many:]
    # Python takes True for 1, but no chain lets it out.
    if many == 0 or len(outs) != len(row) or not all([is_number(out) for out in wanted]):
        return None
    cells = cells_for(row, wanted, many)
    if cells is None:
        return None
    return Chain(*cells)
