"""Worktops for tests, and all that can be found out about one."""

from siftchain.cells import Chain
from siftchain.errors import SiftError
from siftchain.worktop import Worktop


def bench(text="less less", *numbers):
    """Return a worktop into which some numbers were put."""
    worktop = Worktop(Chain.parse(text))
    for number in numbers:
        worktop.put(number)
    return worktop


def shown(worktop):
    """Return all that can be read of a worktop."""
    return worktop.chain_now.text, worktop.held, worktop.let_out, worktop.operations


def whole(worktop):
    """Return all that can be read, also on all ways that undo and redo can go; all is then as it was."""
    states = [shown(worktop)]
    back = 0
    while worktop.undo():
        back += 1
        states.append(shown(worktop))
    ahead = 0
    while worktop.redo():
        ahead += 1
        states.append(shown(worktop))
    for tick in range(ahead - back):
        worktop.undo()
    return states


def act(worktop, operation):
    """Execute an operation by its method; return its result, or the class of its error."""
    word, *arguments = operation
    try:
        return getattr(worktop, word)(*arguments)
    except SiftError as error:
        return error.__class__
