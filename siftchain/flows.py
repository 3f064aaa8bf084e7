"""Rows of numbers that come into a chain again and again."""

from siftchain.checks import check_some, is_within
from siftchain.errors import InvalidNumber

LONGEST_REPEATED = 12
MOST_TICKS = 10 ** 18


def check_count(value, least):
    """Raise InvalidNumber unless the value counts ticks or numbers."""
    if not is_within(value, least, MOST_TICKS):
        raise InvalidNumber(f"not an integer from {least} to 10 ** 18")


def run_until_repeat(chain, row):
    """Run the chain until all is as before an earlier tick.

    Return the list of what the cells hold before each tick, the list of what
    comes out in it, and the number of that earlier tick.
    """
    seen = {}
    helds = []
    outs = []
    held = chain.empty
    place = 0
    while (held, place) not in seen:
        seen[(held, place)] = len(helds)
        helds.append(held)
        held, out = chain.step(held, row[place])
        outs.append(out)
        place = (place + 1) % len(row)
    return helds, outs, seen[(held, place)]


def same_tick(tick, start, end):
    """Return the tick before the end that is like a given one, if the end is like the start."""
    if tick < end:
        return tick
    return start + (tick - start) % (end - start)


def times_until(ticks, at, start, end):
    """Return how many of the first ticks are like the one at a place before the end."""
    if at >= ticks:
        return 0
    if at < start:
        return 1
    return (ticks - at - 1) // (end - start) + 1


def nth_out(chain, row, number):
    """Return the n-th number that comes out."""
    check_some(row, LONGEST_REPEATED)
    check_count(number, 1)
    helds, outs, start = run_until_repeat(chain, row)
    # Filling the cells takes one tick for each; then a number comes out in every tick.
    tick = len(chain) + number - 1
    return outs[same_tick(tick, start, len(outs))]


def held_after(chain, row, ticks):
    """Return the tuple of what the cells hold after so many ticks."""
    check_some(row, LONGEST_REPEATED)
    check_count(ticks, 0)
    helds, outs, start = run_until_repeat(chain, row)
    return helds[same_tick(ticks, start, len(outs))]


def find_cycle(chain, row):
    """Return the first tick that is repeated and after how many ticks it first is."""
    check_some(row, LONGEST_REPEATED)
    helds, outs, start = run_until_repeat(chain, row)
    return start, len(helds) - start


def count_out(chain, row, ticks):
    """Return how often each number comes out in the first ticks."""
    check_some(row, LONGEST_REPEATED)
    check_count(ticks, 0)
    helds, outs, start = run_until_repeat(chain, row)
    counts = {}
    for at, out in enumerate(outs):
        times = times_until(ticks, at, start, len(outs))
        if out is not None and times > 0:
            counts[out] = counts.get(out, 0) + times
    return {number: counts[number] for number in sorted(list(counts))}


def first_unlike(chain, other, row):
    """Return the first tick in which two chains let out different things, or None."""
    check_some(row, LONGEST_REPEATED)
    seen = {}
    held = chain.empty
    other_held = other.empty
    tick = 0
    while (held, other_held, tick % len(row)) not in seen:
        seen[(held, other_held, tick % len(row))] = True
        number = row[tick % len(row)]
        held, out = chain.step(held, number)
        other_held, other_out = other.step(other_held, number)
        if out != other_out:
            return tick
        tick += 1
    return None
