"""Chains with a rule that is not known."""

from siftchain.cells import PLAIN_RULES, Chain, cell_of
from siftchain.checks import LONGEST_ROW, check_index, check_number, check_some
from siftchain.errors import Contradiction, InvalidNumber


def chain_with(chain, index, word):
    """Return a chain with another rule at an index."""
    cells = list(chain.cells)
    cells[index] = cell_of(word)
    return Chain(*cells)


def rules_after(rules, number, out):
    """Return those rules that let out what was observed if a number comes in.

    Each rule is a tuple of its word, the chain with it and what the cells hold then.
    """
    check_number(number)
    left = []
    for word, chain, held in rules:
        kept, came_out = chain.step(held, number)
        # Python takes True for 1, the document does not.
        if came_out == out and not isinstance(out, bool):
            left.append((word, chain, kept))
    if not left:
        raise Contradiction("no rule lets this out")
    return left


def most_left(rules, number):
    """Return how many rules remain in the worst case if a number comes in."""
    counts = {}
    for word, chain, held in rules:
        kept, out = chain.step(held, number)
        counts[out] = counts.get(out, 0) + 1
    return max(list(counts.values()))


class Observer:
    """Lets numbers into an empty chain and finds which rules a cell of it can have."""

    def __init__(self, chain, index):
        check_index(index, len(chain))
        self.rules = [(word, chain_with(chain, index, word), chain.empty) for word in PLAIN_RULES]
        self.accepted = []

    def see(self, number, out):
        """Observe what comes out if a number comes in; return how many rules remain."""
        self.rules = rules_after(self.rules, number, out)
        self.accepted.append((number, out))
        return len(self.rules)

    def see_all(self, *pairs):
        """Observe several numbers, all or none; return how many rules remain."""
        rules = self.rules
        for pair in pairs:
            if not isinstance(pair, tuple) or len(pair) != 2:
                raise InvalidNumber("not a tuple of a number and of what comes out")
            number, out = pair
            rules = rules_after(rules, number, out)
        self.rules = rules
        self.accepted.extend(list(pairs))
        return len(rules)

    @property
    def possible(self):
        return [word for word, chain, held in self.rules]

    @property
    def history(self):
        return list(self.accepted)

    def best_number(self, numbers):
        """Return the first number that leaves the fewest rules in the worst case."""
        check_some(numbers, LONGEST_ROW)
        return min(numbers, key=lambda number: most_left(self.rules, number))
