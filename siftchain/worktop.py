"""A chain that works, with undo, snapshots and batches."""

from siftchain.cells import Chain
from siftchain.checks import check_index, check_number
from siftchain.errors import InvalidName, InvalidNumber, InvalidOperation, SiftError, UnknownName

LONGEST_NAME = 8
# How many arguments each operation has.
ARGUMENTS = {"put": 1, "take": 1, "swap": 1, "undo": 0, "redo": 0}


def is_name(value):
    """Tell whether a snapshot can have this name."""
    if not isinstance(value, str) or not 1 <= len(value) <= LONGEST_NAME:
        return False
    return all(["a" <= letter <= "z" for letter in value])


def is_operation(value):
    """Tell whether a value is a tuple of the word of an operation and of as many arguments as it has."""
    if not isinstance(value, tuple) or not value:
        return False
    word = value[0]
    return isinstance(word, str) and word in ARGUMENTS and len(value) == 1 + ARGUMENTS[word]


class Step:
    """An operation, the chain and its numbers after it, and what came out by it or None."""

    def __init__(self, word, chain, numbers, out):
        self.word = word
        self.chain = chain
        self.numbers = numbers
        self.out = out


class Worktop:
    """A chain that numbers are put into, and whose operations can be undone."""

    def __init__(self, chain):
        # The first step is the beginning and no operation; `done` is the place of the last
        # one in effect, and those behind it can be repeated. Steps themselves never change.
        self.steps = [Step("", chain, chain.empty, None)]
        self.done = 0
        self.saved = {}

    @classmethod
    def replay(cls, chain, operations):
        """Return a worktop after a list of operations on a new one."""
        if not isinstance(operations, list):
            raise InvalidOperation(0)
        worktop = cls(chain)
        for place, operation in enumerate(operations):
            if not is_operation(operation):
                raise InvalidOperation(place)
            try:
                worktop.execute(operation)
            except SiftError:
                raise InvalidOperation(place) from None
        return worktop

    def now(self):
        """Return the step that tells how the chain is now."""
        return self.steps[self.done]

    def advance(self, word, chain, numbers, out):
        """Add an operation to those in effect, instead of those that were undone."""
        del self.steps[self.done + 1:]
        self.steps.append(Step(word, chain, numbers, out))
        self.done += 1

    def put(self, number):
        """Let a number in; return what comes out, or None."""
        check_number(number)
        now = self.now()
        numbers, out = now.chain.step(now.numbers, number)
        self.advance("put", now.chain, numbers, out)
        return out

    def take(self, index):
        """Take the number of a cell out and return it; those behind it move up."""
        now = self.now()
        check_index(index, len(now.chain))
        taken = now.numbers[index]
        if taken is None:
            raise InvalidNumber("the cell is empty")
        numbers = now.numbers[:index] + now.numbers[index + 1:] + (None,)
        self.advance("take", now.chain, numbers, None)
        return taken

    def swap(self, index):
        """Exchange the rules of a cell and of the next one; return their labels."""
        now = self.now()
        check_index(index, len(now.chain) - 1)
        cells = list(now.chain.cells)
        cells[index], cells[index + 1] = cells[index + 1], cells[index]
        self.advance("swap", Chain(*cells), now.numbers, None)
        return cells[index].label, cells[index + 1].label

    def undo(self):
        """Undo the last operation in effect; return whether there was one."""
        if self.done == 0:
            return False
        self.done -= 1
        return True

    def redo(self):
        """Repeat the operation that was undone last; return whether there was one."""
        if self.done + 1 == len(self.steps):
            return False
        self.done += 1
        return True

    @property
    def chain_now(self):
        return self.now().chain

    @property
    def held(self):
        return self.now().numbers

    @property
    def let_out(self):
        return [step.out for step in self.steps[:self.done + 1] if step.out is not None]

    @property
    def operations(self):
        return [step.word for step in self.steps[1:self.done + 1]]

    def save(self, name):
        """Save the complete state under a name."""
        if not is_name(name):
            raise InvalidName("a name has one to eight letters a to z")
        self.saved[name] = (list(self.steps), self.done)

    def restore(self, name):
        """Restore the state that was saved under a name."""
        if not isinstance(name, str) or name not in self.saved:
            raise UnknownName("no snapshot has this name")
        steps, done = self.saved[name]
        self.steps = list(steps)
        self.done = done

    def execute(self, operation):
        """Execute an operation that is well-formed; return its result."""
        word = operation[0]
        if word == "put":
            return self.put(operation[1])
        if word == "take":
            return self.take(operation[1])
        if word == "swap":
            return self.swap(operation[1])
        if word == "undo":
            return self.undo()
        return self.redo()

    def batch(self, operations):
        """Execute a list of operations, all or none; return the list of their results."""
        if not isinstance(operations, list):
            raise InvalidOperation(0)
        for place, operation in enumerate(operations):
            if not is_operation(operation):
                raise InvalidOperation(place)
        steps = list(self.steps)
        done = self.done
        try:
            return [self.execute(operation) for operation in operations]
        except SiftError:
            self.steps = steps
            self.done = done
            raise
