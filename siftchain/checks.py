"""What the whole package accepts as an integer, a number, an index and a row."""

from siftchain.errors import InvalidNumber, InvalidRow, UnknownCell

LIMIT = 10 ** 9
LONGEST_ROW = 1000


def is_within(value, least, most):
    """Tell whether a value is an integer from the least to the most one."""
    # Python takes True and False for integers, the document does not.
    if not isinstance(value, int) or isinstance(value, bool):
        return False
    return least <= value <= most


def is_number(value):
    """Tell whether a value is a number that cells can hold."""
    return is_within(value, -LIMIT, LIMIT)


def check_number(value):
    """Raise InvalidNumber unless the value is a number that cells can hold."""
    if not is_number(value):
        raise InvalidNumber("not an integer from -10 ** 9 to 10 ** 9")


def check_index(index, many):
    """Raise UnknownCell unless the index is that of one of so many cells."""
    if not is_within(index, 0, many - 1):
        raise UnknownCell("no cell of the chain has this index")


def check_row(row, longest):
    """Raise InvalidRow unless the row is a list of numbers that is not too long."""
    if not isinstance(row, list):
        raise InvalidRow(0)
    for at, number in enumerate(row):
        if at == longest or not is_number(number):
            raise InvalidRow(at)


def check_some(row, longest):
    """Raise InvalidRow for the same, and if there are no numbers."""
    check_row(row, longest)
    if not row:
        raise InvalidRow(0)
