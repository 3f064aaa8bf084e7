"""What the whole package accepts as an integer, as a number and as a row."""

from siftchain.errors import InvalidRow

LIMIT = 10 ** 9


def is_within(value, least, most):
    """Tell whether a value is an integer from the least to the most one."""
    # Python takes True and False for integers, the document does not.
    if not isinstance(value, int) or isinstance(value, bool):
        return False
    return least <= value <= most


def is_number(value):
    """Tell whether a value is a number that cells can hold."""
    return is_within(value, -LIMIT, LIMIT)


def check_row(row, longest):
    """Raise InvalidRow unless the row is a list of numbers that is not too long."""
    if not isinstance(row, list):
        raise InvalidRow(0)
    for at, number in enumerate(row):
        if at == longest or not is_number(number):
            raise InvalidRow(at)
